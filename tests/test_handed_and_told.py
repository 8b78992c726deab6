"""[0.1], [0.3] and the interface's kinds: what is handed in stays as it was, what is told is new."""

import copy
import unittest

from signalbox.driving import draw, enter, go, turn
from signalbox.errors import BadYard
from signalbox.leaving import way_out
from signalbox.routes import routes
from signalbox.yards import Yard, cancel, set_route, throw, tick
from tests.helper import STATION, STATION_SIGNALS, bring, station, told

PIECES = (("plain", 0, 1), ("points", 1, 2, 3), ("plain", 2, 4), ("points", 3, 5, 6))
SIGNALS = ((0, 0), (4, 2), (6, 3), (5, 3))


class TestHandedIn(unittest.TestCase):
    def test_the_lists_are_as_they_were(self):
        pieces, signals = list(PIECES), list(SIGNALS)
        routes(pieces, signals)
        self.assertEqual(pieces, list(PIECES))
        self.assertEqual(signals, list(SIGNALS))

    def test_the_lists_of_a_bad_yard_are_as_they_were(self):
        pieces, signals = list(PIECES), [(0, 0), (0, 0)]
        with self.assertRaises(BadYard):
            routes(pieces, signals)
        self.assertEqual(pieces, list(PIECES))
        self.assertEqual(signals, [(0, 0), (0, 0)])

    def test_the_lists_may_be_changed_afterwards(self):
        pieces, signals = list(PIECES), list(SIGNALS)
        told = routes(pieces, signals)
        before = copy.deepcopy(told)
        pieces[0] = ("plain", 7, 8)
        pieces.append(("plain", 0, 1))
        signals.clear()
        self.assertEqual(told, before)

    def test_changed_lists_are_read_anew(self):
        pieces, signals = [("plain", 0, 1)], [(0, 0)]
        self.assertEqual(routes(pieces, signals), [(0, [(0, 0, 1)])])
        pieces.append(("plain", 1, 2))
        self.assertEqual(routes(pieces, signals), [(0, [(0, 0, 1), (1, 1, 2)])])
        signals[0] = (2, 1)
        self.assertEqual(routes(pieces, signals), [(0, [(1, 2, 1), (0, 1, 0)])])
        pieces.clear()
        with self.assertRaises(BadYard):
            routes(pieces, signals)


class TestTold(unittest.TestCase):
    def test_changing_a_told_list_changes_nothing_told_later(self):
        pieces, signals = list(PIECES), list(SIGNALS)
        first = routes(pieces, signals)
        expected = copy.deepcopy(first)
        for number, way in first:
            way.clear()
        first.clear()
        self.assertEqual(routes(pieces, signals), expected)

    def test_changing_one_way_leaves_the_others(self):
        told = routes(list(PIECES), list(SIGNALS))
        expected = copy.deepcopy(told)
        for number in range(len(told)):
            told[number][1].append("changed")
            for other in range(number + 1, len(told)):
                self.assertEqual(told[other], expected[other])

    def test_changing_a_told_list_leaves_the_one_handed_in(self):
        pieces, signals = [("plain", 0, 1)], []
        routes(pieces, signals).append("changed")
        self.assertEqual(pieces, [("plain", 0, 1)])
        self.assertEqual(signals, [])


def busy_station():
    """A train at signal 1, and one that has pieces ahead and a way out of one route."""
    yard = station()
    bring(yard, 5, 0)
    set_route(yard, 5)
    enter(yard, 0, 3)
    return yard


class TestYards(unittest.TestCase):
    def test_the_lists_are_as_they_were(self):
        pieces, signals = list(STATION), list(STATION_SIGNALS)
        yard = Yard(pieces, signals, 1)
        bring(yard, 5, 0)
        self.assertEqual((pieces, signals), (list(STATION), list(STATION_SIGNALS)))

    def test_the_lists_are_not_kept(self):
        pieces, signals = list(STATION), list(STATION_SIGNALS)
        yard, other = Yard(pieces, signals, 2), station()
        for change in (
            lambda: signals.reverse(),
            lambda: pieces.reverse(),
            lambda: signals.clear(),
            lambda: pieces.__setitem__(slice(None), [("points", 1, 2, 3)] * 3),
            lambda: pieces.clear(),
        ):
            change()
            self.assertEqual(told(yard), told(other))
        for one in (yard, other):
            bring(one, 5, 0)
            bring(one, 0, 5)
            set_route(one, 2)
            cancel(one, 2)
            go(one, 5)
            throw(one, 1)
        self.assertEqual(told(yard), told(other))
        self.assertEqual(yard.where(5), [4, 2])

    def test_told_lists_are_new_ones(self):
        yard = busy_station()
        expected = told(yard)
        for change in (lambda xs: xs.clear(), lambda xs: xs.reverse(), lambda xs: xs.append(3)):
            ways = yard.ways()
            for signal, way in ways:
                change(way)
            change(ways)
            for name in (0, 5):
                change(yard.where(name))
                self.assertEqual(yard.where(name), expected["where"][name])
            change(way_out(yard, 0))
            self.assertEqual(told(yard), expected)
        go(yard, 0)
        go(yard, 0)
        self.assertEqual(yard.where(0), [3, 4, 5])

    def test_told_lists_stay_as_they_were_told(self):
        yard = busy_station()
        ways, where, out = yard.ways(), yard.where(0), way_out(yard, 0)
        expected = copy.deepcopy((ways, where, out))
        go(yard, 0)
        go(yard, 0)
        draw(yard, 0)
        turn(yard, 0)
        tick(yard)
        self.assertEqual((ways, where, out), expected)
        self.assertNotEqual(yard.where(0), where)

    def test_one_yard_changes_nothing_of_another(self):
        pieces, signals = list(STATION), list(STATION_SIGNALS)
        yard, other = Yard(pieces, signals, 2), Yard(pieces, signals, 2)
        bring(other, 8, 1)
        before = told(other)
        for deed, args in (
            (throw, [4]), (set_route, [0]), (cancel, [0]), (tick, []), (enter, [5, 0]), (go, [5]), (draw, [5]),
            (go, [5]), (draw, [5]), (set_route, [2]), (cancel, [2]), (turn, [5]), (tick, []), (tick, []),
            (way_out, [5]), (turn, [5]), (set_route, [2]), (go, [5]), (go, [5]), (go, [5]), (draw, [5]),
            (draw, [5]), (draw, [5]),
        ):
            deed(yard, *args)
            self.assertEqual(told(other), before)
        self.assertEqual(told(Yard(pieces, signals, 2)), told(station()))

    def test_asking_changes_nothing(self):
        yard = busy_station()
        first = told(yard)
        for count in range(3):
            self.assertEqual(told(yard), first)


class TestKinds(unittest.TestCase):
    def test_a_list_of_pairs_of_a_number_and_a_list_of_triples(self):
        told = routes(list(PIECES), list(SIGNALS))
        self.assertEqual(len(told), 6)
        self.assertIs(type(told), list)
        for route in told:
            self.assertIs(type(route), tuple)
            self.assertEqual(len(route), 2)
            self.assertIs(type(route[0]), int)
            self.assertIs(type(route[1]), list)
            self.assertGreater(len(route[1]), 0)
            for step in route[1]:
                self.assertIs(type(step), tuple)
                self.assertEqual([type(part) for part in step], [int, int, int])

    def test_an_empty_list_where_there_is_no_route(self):
        told = routes(list(PIECES), [])
        self.assertIs(type(told), list)
        self.assertEqual(told, [])

    def test_the_arguments_bear_their_names_of_a_yard_too(self):
        yard = Yard(pieces=list(STATION), signals=list(STATION_SIGNALS), wait=1)
        set_route(yard=yard, route=0)
        cancel(yard=yard, route=0)
        enter(yard=yard, name=5, signal=0)
        go(yard=yard, name=5)
        draw(yard=yard, name=5)
        tick(yard=yard)
        throw(yard=yard, piece=4)
        self.assertEqual((yard.lock_of(piece=2), yard.train_in(piece=1), yard.lies(piece=4)), (0, 5, "branch"))
        self.assertEqual((yard.is_green(signal=0), yard.where(name=5), yard.time()), (False, [1], 1))
        self.assertEqual(way_out(yard=yard, name=5), [2])
        turn(yard=yard, name=5)
        self.assertIsNone(yard.lock_of(2))

    def test_what_a_yard_tells(self):
        yard = station()
        set_route(yard, 3)
        bring(yard, 5, 0)
        self.assertIs(type(yard.time()), int)
        self.assertIs(type(yard.lock_of(4)), int)
        self.assertIs(type(yard.train_in(2)), int)
        self.assertIs(yard.is_green(2), True)
        self.assertIs(yard.is_green(1), False)
        self.assertEqual([type(yard.where(5)), type(yard.ways())], [list, list])
        self.assertEqual({type(route) for route in yard.ways()}, {tuple})
        self.assertEqual({type(way) for signal, way in yard.ways()}, {list})
        self.assertEqual({type(step) for signal, way in yard.ways() for step in way}, {tuple})

    def test_the_arguments_bear_their_names(self):
        told = routes(pieces=[("plain", 0, 1)], signals=[(1, 0)])
        self.assertEqual(told, [(0, [(0, 1, 0)])])


if __name__ == "__main__":
    unittest.main()
