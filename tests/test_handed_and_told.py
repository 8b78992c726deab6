"""[0.1], [0.3] and the interface's kinds: what is handed in stays as it was, what is told is new."""

import copy
import unittest

from signalbox.errors import BadYard
from signalbox.routes import routes

PIECES = (("plain", 0, 1), ("points", 1, 2, 3), ("plain", 2, 4), ("points", 3, 5, 6))
SIGNALS = ((0, 0), (4, 2), (6, 3), (5, 3))


class TestHandedIn(unittest.TestCase):
    def test_the_lists_are_as_they_were(self):
        pieces, signals = list(PIECES), list(SIGNALS)
        routes(pieces, signals)
        self.assertEqual(pieces, list(PIECES))
        self.assertEqual(signals, list(SIGNALS))

    def test_the_lists_of_a_bad_yard_are_as_they_were(self):
        pieces, signals = list(PIECES), [(0, 0), (0, 0)]
        with self.assertRaises(BadYard):
            routes(pieces, signals)
        self.assertEqual(pieces, list(PIECES))
        self.assertEqual(signals, [(0, 0), (0, 0)])

    def test_the_lists_may_be_changed_afterwards(self):
        pieces, signals = list(PIECES), list(SIGNALS)
        told = routes(pieces, signals)
        before = copy.deepcopy(told)
        pieces[0] = ("plain", 7, 8)
        pieces.append(("plain", 0, 1))
        signals.clear()
        self.assertEqual(told, before)

    def test_changed_lists_are_read_anew(self):
        pieces, signals = [("plain", 0, 1)], [(0, 0)]
        self.assertEqual(routes(pieces, signals), [(0, [(0, 0, 1)])])
        pieces.append(("plain", 1, 2))
        self.assertEqual(routes(pieces, signals), [(0, [(0, 0, 1), (1, 1, 2)])])
        signals[0] = (2, 1)
        self.assertEqual(routes(pieces, signals), [(0, [(1, 2, 1), (0, 1, 0)])])
        pieces.clear()
        with self.assertRaises(BadYard):
            routes(pieces, signals)


class TestTold(unittest.TestCase):
    def test_changing_a_told_list_changes_nothing_told_later(self):
        pieces, signals = list(PIECES), list(SIGNALS)
        first = routes(pieces, signals)
        expected = copy.deepcopy(first)
        for number, way in first:
            way.clear()
        first.clear()
        self.assertEqual(routes(pieces, signals), expected)

    def test_changing_one_way_leaves_the_others(self):
        told = routes(list(PIECES), list(SIGNALS))
        expected = copy.deepcopy(told)
        for number in range(len(told)):
            told[number][1].append("changed")
            for other in range(number + 1, len(told)):
                self.assertEqual(told[other], expected[other])

    def test_changing_a_told_list_leaves_the_one_handed_in(self):
        pieces, signals = [("plain", 0, 1)], []
        routes(pieces, signals).append("changed")
        self.assertEqual(pieces, [("plain", 0, 1)])
        self.assertEqual(signals, [])


class TestKinds(unittest.TestCase):
    def test_a_list_of_pairs_of_a_number_and_a_list_of_triples(self):
        told = routes(list(PIECES), list(SIGNALS))
        self.assertEqual(len(told), 6)
        self.assertIs(type(told), list)
        for route in told:
            self.assertIs(type(route), tuple)
            self.assertEqual(len(route), 2)
            self.assertIs(type(route[0]), int)
            self.assertIs(type(route[1]), list)
            self.assertGreater(len(route[1]), 0)
            for step in route[1]:
                self.assertIs(type(step), tuple)
                self.assertEqual([type(part) for part in step], [int, int, int])

    def test_an_empty_list_where_there_is_no_route(self):
        told = routes(list(PIECES), [])
        self.assertIs(type(told), list)
        self.assertEqual(told, [])

    def test_the_arguments_bear_their_names(self):
        told = routes(pieces=[("plain", 0, 1)], signals=[(1, 0)])
        self.assertEqual(told, [(0, [(0, 1, 0)])])


if __name__ == "__main__":
    unittest.main()
