"""[2.1], [2.2], [2.4]: a new yard; routes that are set, points that are thrown; what is not there."""

from signalbox.driving import draw, enter, go, turn
from signalbox.errors import BadYard, Held, NotThere
from signalbox.routes import routes
from signalbox.yards import Yard, cancel, set_route, throw, tick
from tests.helper import NOWHERE, STATION_WAYS, YardCase, bring, greens, locks, station, told


class TestNewYard(YardCase):
    def test_all_that_it_tells(self):
        for wait in (0, 1, 7, 999_999_999_999_999):
            yard = station(wait)
            self.assertEqual(yard.ways(), STATION_WAYS)
            self.assertEqual(yard.time(), 0)
            for piece in range(6):
                self.assertIsNone(yard.lock_of(piece))
                self.assertIsNone(yard.train_in(piece))
            for piece in (1, 4):
                self.assertEqual(yard.lies(piece), "straight")
            for signal in range(6):
                self.assertIs(yard.is_green(signal), False)
            for name in (-1, 0, 1):
                self.refused(NotThere, yard, yard.where, name)

    def test_its_ways_are_its_routes(self):
        for pieces, signals in (
            ([("plain", 0, 1)], []),
            ([("plain", 0, 1)], [(1, 0), (0, 0)]),
            ([("points", 5, 1, 9), ("points", 5, 2, 8)], [(1, 0), (8, 1)]),
            ([("plain", 0, 1), ("plain", 1, 0)], [(0, 0)]),
        ):
            self.assertEqual(Yard(pieces, signals, 0).ways(), routes(pieces, signals))

    def test_bad_yards(self):
        for pieces, signals in (
            ([], []),
            ([("plain", n, n + 1) for n in range(17)], []),
            ([("plain", 0, 1000)], []),
            ([("plain", -1, 0)], []),
            ([("points", 1, 2, 1)], []),
            ([("plain", 0, 1), ("plain", 0, 2), ("plain", 0, 3)], []),
            ([("plain", 0, 1)], [(0, 0), (0, 0)]),
            ([("plain", 0, 1)], [(0, 1)]),
            ([("plain", 0, 1)], [(0, -1)]),
            ([("plain", 0, 1)], [(2, 0)]),
        ):
            with self.assertRaises(BadYard):
                Yard(pieces, signals, 1)

    def test_at_most_sixteen_signals(self):
        pieces = [("plain", n, n + 1) for n in range(9)]
        places = [(joint, n) for n, piece in enumerate(pieces) for joint in piece[1:]]
        self.assertEqual(len(Yard(pieces, places[:16], 1).ways()), 16)
        with self.assertRaises(BadYard):
            Yard(pieces, places[:17], 1)


class TestTick(YardCase):
    def test_ticks_are_counted(self):
        yard = station()
        for count in range(1, 6):
            self.done(tick, yard)
            self.assertEqual(yard.time(), count)

    def test_nothing_else_changes(self):
        yard = station()
        set_route(yard, 1)
        bring(yard, 5, 4)
        throw(yard, 4)
        before = told(yard)
        for count in range(9):
            tick(yard)
        self.assertEqual(told(yard), {**before, "time": 9})

    def test_no_other_deed_is_a_tick(self):
        yard = station()
        bring(yard, 5, 4)
        set_route(yard, 6)
        cancel(yard, 6)
        turn(yard, 5)
        set_route(yard, 2)
        for deed in (go, go, go, draw, draw):
            deed(yard, 5)
        throw(yard, 4)
        self.assertEqual(yard.time(), 0)


class TestSet(YardCase):
    def test_what_is_so_behind_each_route(self):
        for route, (signal, way) in enumerate(STATION_WAYS):
            yard = station()
            before = told(yard)
            self.done(set_route, yard, route)
            pieces = [step[0] for step in way]
            self.assertEqual(locks(yard), [route if piece in pieces else None for piece in range(6)])
            self.assertEqual(greens(yard), [signal])
            for part in ("ways", "time", "trains", "where"):
                self.assertEqual(told(yard)[part], before[part])

    def test_how_points_lie_behind_each_route(self):
        # The routes that have piece 1, then those that have piece 4, and how it lies for them.
        for piece, needs in (
            (1, {0: "straight", 1: "branch", 6: "straight", 7: "branch"}),
            (4, {2: "straight", 3: "branch", 4: "straight", 5: "branch"}),
        ):
            for route, lie in needs.items():
                for thrown in (0, 1):
                    yard = station()
                    for count in range(thrown):
                        throw(yard, 1)
                        throw(yard, 4)
                    self.done(set_route, yard, route)
                    self.assertEqual(yard.lies(piece), lie)
                    self.assertEqual(yard.lies(5 - piece), ["straight", "branch"][thrown])

    def test_points_that_are_passed_from_t_to_t(self):
        yard = Yard([("points", 5, 1, 9), ("points", 5, 2, 8)], [(1, 0), (9, 0)], 0)
        self.assertEqual(len(yard.ways()), 4)
        for route, lies in enumerate(
            (("straight", "straight"), ("straight", "branch"), ("branch", "straight"), ("branch", "branch"))
        ):
            set_route(yard, route)
            self.assertEqual((yard.lies(0), yard.lies(1)), lies)
            cancel(yard, route)

    def test_points_whose_joints_bear_their_own_number(self):
        for joints in ((1, 2, 0), (1, 0, 2), (0, 1, 2)):
            pieces = [("points",) + joints]
            yard = Yard(pieces, [(joints[0], 0), (joints[1], 0), (joints[2], 0)], 0)
            for route, lie in enumerate(("straight", "branch", "straight", "branch")):
                set_route(yard, route)
                self.assertEqual(yard.lies(0), lie)
                cancel(yard, route)

    def test_routes_that_have_no_piece_in_common(self):
        yard = station()
        set_route(yard, 0)
        set_route(yard, 3)
        self.assertEqual(locks(yard), [0, 0, 0, None, 3, 3])
        self.assertEqual(greens(yard), [0, 2])
        self.assertEqual((yard.lies(1), yard.lies(4)), ("straight", "branch"))

    def test_held_where_one_piece_is_locked(self):
        for route, (signal, way) in enumerate(STATION_WAYS):
            for other, (other_signal, other_way) in enumerate(STATION_WAYS):
                yard = station()
                set_route(yard, route)
                if {step[0] for step in way} & {step[0] for step in other_way}:
                    self.refused(Held, yard, set_route, yard, other)
                else:
                    self.done(set_route, yard, other)

    def test_held_where_a_train_is_in_one_piece(self):
        yard = station()
        bring(yard, 0, 0)
        self.assertEqual(yard.where(0), [2])
        for route in (0, 4):
            self.refused(Held, yard, set_route, yard, route)
        for route in (1, 2, 6):
            self.done(set_route, yard, route)
            yard = station()
            bring(yard, 0, 0)

    def test_held_where_the_tail_of_a_train_is(self):
        yard = station()
        set_route(yard, 0)
        enter(yard, 0, 0)
        go(yard, 0)
        go(yard, 0)
        self.refused(Held, yard, set_route, yard, 7)
        draw(yard, 0)
        self.refused(Held, yard, set_route, yard, 7)
        draw(yard, 0)
        self.done(set_route, yard, 7)

    def test_what_held_the_route_was_free_again(self):
        yard = station()
        set_route(yard, 6)
        self.refused(Held, yard, set_route, yard, 0)
        cancel(yard, 6)
        self.done(set_route, yard, 0)

    def test_a_refused_one_moves_no_points(self):
        # Route 1 needs points 1 in the branch; only its last piece is held.
        yard = station()
        bring(yard, 0, 5)
        self.assertEqual(yard.where(0), [3])
        self.assertEqual(yard.lies(1), "straight")
        self.refused(Held, yard, set_route, yard, 1)
        self.assertEqual(locks(yard), [None] * 6)

    def test_a_route_that_ends_at_its_own_signal(self):
        yard = Yard([("plain", 0, 1), ("plain", 1, 0)], [(0, 0)], 1)
        self.done(set_route, yard, 0)
        self.assertEqual(locks(yard), [0, 0])
        self.assertEqual(greens(yard), [0])


class TestThrow(YardCase):
    def test_the_other_way_and_back(self):
        yard, no = station(), "not there"
        before = told(yard)
        for lie in ("branch", "straight", "branch"):
            self.done(throw, yard, 4)
            self.assertEqual(told(yard), {**before, "lies": [no, "straight", no, no, lie, no]})

    def test_held_where_locked(self):
        yard = station()
        set_route(yard, 1)
        self.refused(Held, yard, throw, yard, 1)
        self.done(throw, yard, 4)
        cancel(yard, 1)
        tick(yard)
        self.refused(Held, yard, throw, yard, 1)
        tick(yard)
        self.done(throw, yard, 1)
        self.assertEqual(yard.lies(1), "straight")

    def test_held_where_a_train_is(self):
        yard = station()
        set_route(yard, 0)
        enter(yard, 0, 0)
        self.refused(Held, yard, throw, yard, 1)
        go(yard, 0)
        self.assertIsNone(yard.lock_of(1))
        self.refused(Held, yard, throw, yard, 1)
        go(yard, 0)
        draw(yard, 0)
        self.refused(Held, yard, throw, yard, 1)
        draw(yard, 0)
        self.done(throw, yard, 1)

    def test_the_lie_that_a_route_left_stays(self):
        yard = station()
        set_route(yard, 7)
        cancel(yard, 7)
        self.assertEqual(yard.lies(1), "branch")


class TestNotThere(YardCase):
    def test_numbers_that_are_not_there(self):
        yard = station()
        for number in NOWHERE + (6,):
            for asked in (yard.lock_of, yard.train_in, yard.lies, yard.is_green):
                self.refused(NotThere, yard, asked, number)
            self.refused(NotThere, yard, throw, yard, number)
            self.refused(NotThere, yard, enter, yard, 0, number)
        for number in NOWHERE + (8,):
            self.refused(NotThere, yard, set_route, yard, number)
            self.refused(NotThere, yard, cancel, yard, number)

    def test_the_last_numbers_are_there(self):
        yard = station()
        self.assertIsNone(yard.lock_of(5))
        self.assertIsNone(yard.train_in(5))
        self.assertIs(yard.is_green(5), False)
        self.done(set_route, yard, 7)
        self.done(cancel, yard, 7)

    def test_yards_without_signals_and_routes(self):
        yard = Yard([("plain", 0, 1)], [], 0)
        self.refused(NotThere, yard, set_route, yard, 0)
        self.refused(NotThere, yard, cancel, yard, 0)
        self.refused(NotThere, yard, yard.is_green, 0)
        self.refused(NotThere, yard, enter, yard, 0, 0)
        self.refused(NotThere, yard, yard.lies, 0)

    def test_points_that_are_none(self):
        yard = station()
        for piece in (0, 2, 3, 5):
            self.refused(NotThere, yard, yard.lies, piece)
            self.refused(NotThere, yard, throw, yard, piece)

    def test_ahead_of_held(self):
        yard = station()
        bring(yard, 0, 0)
        bring(yard, 5, 5)
        set_route(yard, 6)
        set_route(yard, 3)
        self.assertEqual(locks(yard), [6, 6, None, None, 3, 3])
        for piece in (0, 2, 3, 5) + NOWHERE:
            self.refused(NotThere, yard, throw, yard, piece)
        for route in NOWHERE + (8,):
            self.refused(NotThere, yard, set_route, yard, route)
            self.refused(NotThere, yard, cancel, yard, route)

    def test_numbers_below_0_find_nothing_from_the_end(self):
        # The last piece is points: a number below 0 must not find them.
        yard = Yard([("plain", 0, 1), ("points", 1, 2, 3)], [(0, 0), (3, 1)], 1)
        for number in (-1, -2, 2):
            self.refused(NotThere, yard, throw, yard, number)
            self.refused(NotThere, yard, yard.lies, number)
            self.refused(NotThere, yard, yard.is_green, number)
            self.refused(NotThere, yard, enter, yard, 5, number)
