"""[1.4]: every small yard's routes against the document's own words, spelt out another way.

Here nothing is searched: all rows of steps that pass no piece twice are written down, and those
that are no routes are struck out.
"""

import itertools
import unittest

from signalbox.errors import BadYard
from signalbox.routes import routes

JOINTS = range(4)


def all_pieces():
    plain = [("plain", j, k) for j, k in itertools.permutations(JOINTS, 2)]
    points = [("points", t, s, b) for t, s, b in itertools.permutations(JOINTS, 3)]
    return plain + points


def passings(piece):
    """Pairs of the joints by which a piece may be come into and left."""
    if piece[0] == "plain":
        return [(piece[1], piece[2]), (piece[2], piece[1])]
    t, s, b = piece[1:]
    return [(t, s), (t, b), (s, t), (b, t)]


def all_ways(pieces):
    for length in range(1, len(pieces) + 1):
        for numbers in itertools.permutations(range(len(pieces)), length):
            choices = [[(n, come, leave) for come, leave in passings(pieces[n])] for n in numbers]
            for way in itertools.product(*choices):
                if all(one[2] == other[1] for one, other in zip(way, way[1:])):
                    yield list(way)


def is_route(pieces, signals, signal, way):
    if signal != (way[0][1], way[0][0]):
        return False
    if any((come, number) in signals for number, come, leave in way[1:]):
        return False
    last, come, end = way[-1]
    others = [n for n, piece in enumerate(pieces) if n != last and end in piece[1:]]
    return not others or (end, others[0]) in signals


def rank(pieces, way):
    """The choices made at the points passed from t, in their order: 0 for s, 1 for b."""
    choices = []
    for number, come, leave in way:
        piece = pieces[number]
        if piece[0] == "points" and come == piece[1]:
            choices.append(0 if leave == piece[2] else 1)
    return choices


def routes_by_definition(pieces, signals):
    told = []
    ways = list(all_ways(pieces))
    for number, signal in enumerate(signals):
        found = [way for way in ways if is_route(pieces, signals, signal, way)]
        told.extend((number, way) for way in sorted(found, key=lambda way: rank(pieces, way)))
    return told


def is_good(pieces):
    return all(sum(joint in piece[1:] for piece in pieces) <= 2 for joint in JOINTS)


class TestByDefinition(unittest.TestCase):
    def compare(self, pieces, choices):
        for signals in choices:
            if routes(pieces, signals) != routes_by_definition(pieces, signals):
                self.fail(f"{pieces} {signals}: {routes(pieces, signals)}")

    def places(self, pieces):
        return [(joint, n) for n, piece in enumerate(pieces) for joint in piece[1:]]

    def test_every_yard_of_one_piece(self):
        for piece in all_pieces():
            places = self.places([piece])
            for count in range(len(places) + 1):
                self.compare([piece], [list(some) for some in itertools.permutations(places, count)])

    def test_every_yard_of_two_pieces(self):
        for pieces in itertools.product(all_pieces(), repeat=2):
            places = self.places(pieces)
            choices = [list(some) for count in (1, 2, 3) for some in itertools.combinations(places, count)]
            self.compare(list(pieces), choices + [places, places[::-1]])

    def test_yards_of_three_pieces(self):
        # Every seventh, to be quick; seven is prime to the number of the pieces.
        tried = 0
        for number, pieces in enumerate(itertools.product(all_pieces(), repeat=3)):
            if number % 7:
                continue
            places = self.places(pieces)
            if not is_good(pieces):
                with self.assertRaises(BadYard):
                    routes(list(pieces), places)
                continue
            tried += 1
            self.compare(list(pieces), [[place] for place in places] + [places[::-2], places])
        self.assertGreater(tried, 100)


if __name__ == "__main__":
    unittest.main()
