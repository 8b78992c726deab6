"""[4.1]: the way out of a train."""

from signalbox.driving import draw, enter, go, turn
from signalbox.errors import NotThere
from signalbox.leaving import way_out
from signalbox.yards import Yard, cancel, set_route, throw, tick
from tests.helper import NAMES, STATION, YardCase, bring, draw_up, drive, locks, station, told

# Signals of the station; with these both ways over it are of two routes.
IN, FORK, BY_BRANCH, BY_STRAIGHT = (0, 0), (1, 1), (5, 4), (4, 4)


def line(count, wait=1):
    """So many plain pieces in a row, a signal to the right ahead of each: route n has piece n alone."""
    pieces = [("plain", joint, joint + 1) for joint in range(count)]
    return Yard(pieces, [(joint, joint) for joint in range(count)], wait)


def balloon(signals, wait=1):
    """A loop, piece 2 and 3, that joins s and b of the same points, piece 1; piece 0 leads there."""
    return Yard([("plain", 0, 1), ("points", 1, 2, 3), ("plain", 2, 4), ("plain", 4, 3)], signals, wait)


def fork(wait=1):
    """From the points, piece 1, two ways of three routes each; those of the way by s are 4, 2, 6."""
    pieces = [
        ("plain", 0, 1), ("points", 1, 2, 3),
        ("plain", 2, 4), ("plain", 4, 5),
        ("plain", 3, 6), ("plain", 6, 7),
    ]
    return Yard(pieces, [(0, 0), (3, 4), (2, 2), (6, 5), (1, 1), (4, 3)], wait)


class OutCase(YardCase):
    def leads_out(self, yard, name, expected):
        """The way out is this one, nothing is changed by asking, and driven it leads out."""
        before = told(yard)
        out = way_out(yard, name)
        self.assertEqual(out, expected)
        self.assertIs(type(out), list)
        self.assertEqual(told(yard), before)
        for route in out:
            self.to_the_end(yard, name)
            set_route(yard, route)
            go(yard, name)
        self.to_the_end(yard, name)
        go(yard, name)
        draw_up(yard, name)
        draw(yard, name)
        self.refused(NotThere, yard, yard.where, name)

    def to_the_end(self, yard, name):
        for route in range(len(yard.ways())):
            while route in locks(yard) and yard.where(name)[0] in [step[0] for step in yard.ways()[route][1]]:
                go(yard, name)
        draw_up(yard, name)

    def no_way(self, yard, name):
        before = told(yard)
        self.assertIsNone(way_out(yard, name))
        self.assertEqual(told(yard), before)


class TestOwnWay(OutCase):
    def test_not_there(self):
        yard = station()
        bring(yard, 5, 0)
        for name in (0, -5, 4, 6, 999_999_999_999_999):
            self.refused(NotThere, yard, way_out, yard, name)
        for name in NAMES:
            self.refused(NotThere, station(), way_out, station(), name)

    def test_it_ends_at_a_border(self):
        yard = station()
        bring(yard, 5, 0)
        drive(yard, 5, 2)
        self.leads_out(yard, 5, [])

    def test_the_pieces_ahead_end_at_a_border(self):
        yard = station()
        bring(yard, 5, 0)
        set_route(yard, 2)
        go(yard, 5)
        self.assertEqual(locks(yard), [None, None, None, None, None, 2])
        self.leads_out(yard, 5, [])

    def test_it_came_in_by_the_border_and_has_turned(self):
        yard = station()
        set_route(yard, 0)
        enter(yard, 5, 0)
        go(yard, 5)
        turn(yard, 5)
        self.leads_out(yard, 5, [])

    def test_it_is_out(self):
        yard = station()
        bring(yard, 5, 0)
        set_route(yard, 2)
        for count in range(3):
            go(yard, 5)
        for count in range(3):
            self.assertEqual(way_out(yard, 5), [])
            draw(yard, 5)
        self.refused(NotThere, yard, way_out, yard, 5)

    def test_a_piece_alone(self):
        yard = Yard([("plain", 0, 1)], [(0, 0)], 0)
        bring(yard, 5, 0)
        self.leads_out(yard, 5, [])


class TestWays(OutCase):
    def test_one_route(self):
        for come, route in ((0, 2), (1, 3), (4, 6), (5, 7)):
            yard = station()
            bring(yard, 5, come)
            self.leads_out(yard, 5, [route])

    def test_one_route_behind_the_pieces_ahead(self):
        for come, route in ((0, 2), (1, 3), (4, 6), (5, 7)):
            yard = station()
            set_route(yard, come)
            enter(yard, 5, yard.ways()[come][0])
            self.assertEqual(way_out(yard, 5), [route])
            go(yard, 5)
            self.leads_out(yard, 5, [route])

    def test_one_route_the_other_way(self):
        yard = station()
        bring(yard, 5, 0)
        turn(yard, 5)
        self.leads_out(yard, 5, [6])

    def test_several_routes(self):
        for count in (2, 3, 7, 16):
            yard = line(count)
            bring(yard, 5, 0)
            self.leads_out(yard, 5, list(range(1, count)))

    def test_from_the_midst(self):
        yard = line(5)
        bring(yard, 5, 0)
        drive(yard, 5, 1)
        drive(yard, 5, 2)
        self.leads_out(yard, 5, [3, 4])

    def test_none_where_no_signal_stands(self):
        yard = station()
        set_route(yard, 0)
        enter(yard, 5, 0)
        go(yard, 5)
        turn(yard, 5)
        turn(yard, 5)
        self.no_way(yard, 5)

    def test_none_where_the_way_goes_round_for_ever(self):
        # A ring of three with one way in and none out.
        pieces = [("plain", 9, 0), ("points", 1, 3, 0), ("plain", 1, 2), ("plain", 2, 3)]
        yard = Yard(pieces, [(9, 0), (1, 2), (2, 3), (3, 1)], 0)
        bring(yard, 5, 0)
        self.no_way(yard, 5)
        turn(yard, 5)
        self.no_way(yard, 5)

    def test_none_where_the_way_leads_into_a_ring(self):
        pieces = [("plain", 9, 0), ("points", 1, 3, 0), ("plain", 1, 2), ("plain", 2, 3)]
        yard = Yard(pieces, [(9, 0), (0, 1), (1, 2), (2, 3), (3, 1)], 0)
        bring(yard, 5, 0)
        self.no_way(yard, 5)

    def test_not_by_a_route_of_the_other_way_at_the_same_joint(self):
        # At joint 1 signals stand for both ways; route 1 leads out, but not for this train.
        yard = Yard([("plain", 0, 1), ("plain", 1, 2), ("plain", 2, 3)], [(0, 0), (1, 0), (1, 1), (2, 1)], 0)
        bring(yard, 5, 0)
        self.assertEqual(yard.ways()[1], (1, [(0, 1, 0)]))
        self.leads_out(yard, 5, [2])


class TestSeveralShortest(OutCase):
    def test_the_lesser_one_where_they_first_differ(self):
        # The numbers of the second routes fall as those of the first rise.
        yard = Yard(list(STATION), [IN, FORK, BY_BRANCH, BY_STRAIGHT], 1)
        self.assertEqual([signal for signal, way in yard.ways()], [0, 1, 1, 2, 3])
        bring(yard, 5, 0)
        self.leads_out(yard, 5, [1, 4])

    def test_the_numbers_go_by_the_signals(self):
        yard = Yard(list(STATION), [BY_STRAIGHT, BY_BRANCH, FORK, IN], 1)
        self.assertEqual([signal for signal, way in yard.ways()], [0, 1, 2, 2, 3])
        bring(yard, 5, 4)
        self.leads_out(yard, 5, [2, 0])

    def test_the_shorter_one_ahead_of_the_lesser_one(self):
        # One more signal on the way by s: three routes there, two by b.
        pieces = list(STATION[:2]) + [("plain", 2, 8)] + list(STATION[3:]) + [("plain", 8, 4)]
        yard = Yard(pieces, [IN, FORK, BY_BRANCH, BY_STRAIGHT, (8, 6)], 1)
        bring(yard, 5, 0)
        self.leads_out(yard, 5, [2, 3])

    def test_they_differ_at_the_last_one_alone(self):
        yard = Yard([("plain", 0, 1), ("points", 1, 2, 3)], [(1, 1), (0, 0)], 1)
        bring(yard, 5, 2)
        self.leads_out(yard, 5, [0])

    def test_however_points_lie(self):
        for thrown in ([], [1], [4], [1, 4]):
            yard = Yard(list(STATION), [IN, FORK, BY_BRANCH, BY_STRAIGHT], 1)
            bring(yard, 5, 0)
            for piece in thrown:
                throw(yard, piece)
            self.leads_out(yard, 5, [1, 4])

    def test_they_differ_at_each_of_three(self):
        yard = fork()
        self.assertEqual(
            [(signal, way[0][0]) for signal, way in yard.ways()],
            [(0, 0), (1, 4), (2, 2), (3, 5), (4, 1), (4, 1), (5, 3)],
        )
        bring(yard, 5, 0)
        self.leads_out(yard, 5, [4, 2, 6])

    def test_two_that_meet_and_part_again(self):
        # Two diamonds in a row, a signal ahead of each piece that is not plain: four ways of four routes.
        pieces = [
            ("plain", 0, 1), ("points", 1, 2, 3), ("points", 4, 2, 3),
            ("points", 4, 5, 6), ("points", 7, 5, 6), ("plain", 7, 8),
        ]
        signals = [(0, 0), (6, 4), (5, 4), (3, 2), (2, 2), (4, 3), (1, 1)]
        yard = Yard(pieces, signals, 1)
        self.assertEqual([signal for signal, way in yard.ways()], [0, 1, 2, 3, 4, 5, 5, 6, 6])
        bring(yard, 5, 0)
        self.leads_out(yard, 5, [7, 4, 5, 2])


class TestInTheWay(OutCase):
    def test_another_train(self):
        yard = station()
        bring(yard, 5, 0)
        set_route(yard, 5)
        enter(yard, 0, 3)
        self.assertEqual(yard.where(0), [5])
        turn(yard, 0)
        self.assertEqual(locks(yard), [None] * 6)
        self.no_way(yard, 5)
        self.leads_out(yard, 0, [])
        self.leads_out(yard, 5, [2])

    def test_another_train_s_tail(self):
        yard = line(4)
        for name, last in ((0, 2), (5, 0)):
            bring(yard, name, 0)
            for route in range(1, last + 1):
                drive(yard, name, route)
        set_route(yard, 3)
        go(yard, 0)
        self.assertEqual((yard.where(0), yard.where(5)), ([3, 2], [0]))
        self.no_way(yard, 5)
        self.leads_out(yard, 0, [])
        self.leads_out(yard, 5, [1, 2, 3])

    def test_a_train_called_0_is_one_too(self):
        for other in (0, 8):
            yard = line(3)
            bring(yard, other, 0)
            drive(yard, other, 1)
            bring(yard, 5, 0)
            self.no_way(yard, 5)
            self.assertEqual(way_out(yard, other), [2])

    def test_round_another_train(self):
        yard = Yard(list(STATION), [IN, FORK, BY_BRANCH, BY_STRAIGHT], 1)
        bring(yard, 0, 0)
        drive(yard, 0, 1)
        bring(yard, 5, 0)
        self.assertEqual((yard.where(0), yard.where(5)), ([2], [0]))
        self.leads_out(yard, 5, [2, 3])

    def test_round_another_train_by_the_same_points(self):
        # Routes 4 and 5 both end in the points, by s and by b.
        for blocked, expected in (([4, 2], [5, 1, 3]), ([5, 1], [4, 2, 6])):
            yard = fork()
            bring(yard, 0, 0)
            for route in blocked:
                drive(yard, 0, route)
            bring(yard, 5, 0)
            self.leads_out(yard, 5, expected)

    def test_locked_pieces(self):
        yard = station()
        bring(yard, 5, 0)
        set_route(yard, 3)
        self.no_way(yard, 5)
        cancel(yard, 3)
        self.leads_out(yard, 5, [2])

    def test_pieces_locked_for_route_0(self):
        yard = Yard([("plain", n, n + 1) for n in range(3)], [(3, 2), (0, 0), (1, 1), (2, 1)], 9)
        bring(yard, 5, 1)
        self.assertEqual(way_out(yard, 5), [2])
        set_route(yard, 0)
        self.assertEqual(locks(yard), [None, None, 0])
        self.no_way(yard, 5)

    def test_pieces_ahead_of_another_train(self):
        # Both would go out over the same points; the other one has passed its signal first.
        pieces = [("plain", 0, 1), ("points", 2, 1, 3), ("plain", 2, 4), ("plain", 3, 9)]
        yard = Yard(pieces, [(0, 0), (1, 1), (9, 3)], 0)
        bring(yard, 5, 0)
        self.assertEqual(way_out(yard, 5), [1])
        set_route(yard, 2)
        enter(yard, 0, 2)
        self.assertEqual((yard.where(0), locks(yard)), ([3], [None, 2, 2, None]))
        self.no_way(yard, 5)
        turn(yard, 0)
        self.leads_out(yard, 5, [1])

    def test_a_route_that_falls(self):
        yard = Yard([("plain", n, n + 1) for n in range(3)], [(0, 0), (1, 1), (3, 2), (2, 1)], 2)
        bring(yard, 5, 0)
        set_route(yard, 2)
        cancel(yard, 2)
        tick(yard)
        self.no_way(yard, 5)
        tick(yard)
        self.leads_out(yard, 5, [1])

    def test_a_route_that_is_set_for_it_is_locked_too(self):
        yard = station()
        bring(yard, 5, 0)
        set_route(yard, 2)
        self.no_way(yard, 5)
        go(yard, 5)
        self.leads_out(yard, 5, [])

    def test_locked_round_by_the_other_way(self):
        yard = Yard(list(STATION), [IN, FORK, BY_BRANCH, BY_STRAIGHT, (2, 1), (4, 2)], 1)
        bring(yard, 5, 0)
        self.assertEqual(yard.ways()[6], (5, [(2, 4, 2)]))
        set_route(yard, 6)
        self.leads_out(yard, 5, [2, 3])


class TestItself(OutCase):
    def test_round_the_loop_and_over_its_own_pieces(self):
        yard = balloon([(0, 0), (1, 1), (3, 1)])
        self.assertEqual(
            yard.ways(),
            [
                (0, [(0, 0, 1)]),
                (1, [(1, 1, 2), (2, 2, 4), (3, 4, 3)]),
                (2, [(1, 3, 1), (0, 1, 0)]),
            ],
        )
        bring(yard, 5, 0)
        self.leads_out(yard, 5, [1, 2])

    def test_over_pieces_in_which_it_is(self):
        yard = balloon([(0, 0), (3, 1)])
        set_route(yard, 0)
        enter(yard, 5, 0)
        for count in range(3):
            go(yard, 5)
        self.assertEqual(yard.where(5), [3, 2, 1, 0])
        self.leads_out(yard, 5, [1])

    def test_over_pieces_that_are_ahead_of_it(self):
        yard = balloon([(0, 0), (3, 1)])
        set_route(yard, 0)
        enter(yard, 5, 0)
        self.assertEqual(locks(yard), [None, 0, 0, 0])
        self.leads_out(yard, 5, [1])

    def test_not_over_the_piece_in_which_its_own_way_ends(self):
        # The train fills the points, and the one route from there comes back over them.
        yard = balloon([(0, 0), (2, 2)])
        self.assertEqual(yard.ways()[1], (1, [(2, 2, 4), (3, 4, 3), (1, 3, 1), (0, 1, 0)]))
        set_route(yard, 0)
        enter(yard, 5, 0)
        self.no_way(yard, 5)
        go(yard, 5)
        self.no_way(yard, 5)
        draw(yard, 5)
        self.no_way(yard, 5)

    def test_not_over_the_piece_in_which_the_route_before_ends(self):
        yard = balloon([(0, 0), (1, 1), (2, 2)])
        self.assertEqual(yard.ways()[1], (1, [(1, 1, 2)]))
        self.assertEqual(yard.ways()[2], (2, [(2, 2, 4), (3, 4, 3), (1, 3, 1), (0, 1, 0)]))
        bring(yard, 5, 0)
        self.no_way(yard, 5)

    def test_one_more_signal_and_it_gets_out(self):
        yard = balloon([(0, 0), (1, 1), (2, 2), (3, 1)])
        bring(yard, 5, 0)
        self.leads_out(yard, 5, [1, 2, 3])

    def test_over_the_piece_in_which_an_earlier_route_ends(self):
        # Route 1 ends in the points; by the last one they are left behind.
        yard = balloon([(0, 0), (1, 1), (2, 2), (4, 3)])
        self.assertEqual(yard.ways()[3], (3, [(3, 4, 3), (1, 3, 1), (0, 1, 0)]))
        bring(yard, 5, 0)
        self.leads_out(yard, 5, [1, 2, 3])

    def test_back_past_the_joints_by_which_it_came(self):
        pieces = [("plain", 0, 1), ("plain", 1, 5), ("points", 5, 2, 3), ("plain", 2, 3)]
        yard = Yard(pieces, [(0, 0), (1, 1), (5, 2), (3, 2), (5, 1), (1, 0)], 1)
        self.assertEqual(len(yard.ways()), 6)
        bring(yard, 5, 0)
        self.leads_out(yard, 5, [1, 2, 3, 4, 5])
