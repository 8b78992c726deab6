"""[2.3]: routes that are taken back, and fall where a train is near or the signal stands at a border."""

from signalbox.driving import draw, enter, go, turn
from signalbox.errors import Held, NotThere, Red
from signalbox.yards import Yard, cancel, set_route, throw, tick
from tests.helper import YardCase, bring, drive, greens, locks, station, told

FREE = [None] * 6


def ticks(yard, count):
    for number in range(count):
        tick(yard)


class TestWhichRoutes(YardCase):
    def test_one_that_was_never_set(self):
        yard = station()
        for route in range(8):
            self.refused(NotThere, yard, cancel, yard, route)

    def test_another_one_of_the_green_signal(self):
        yard = station()
        set_route(yard, 0)
        self.refused(NotThere, yard, cancel, yard, 1)
        self.done(cancel, yard, 0)

    def test_one_that_was_taken_back_already(self):
        for wait in (0, 1, 3):
            yard = station(wait)
            set_route(yard, 0)
            cancel(yard, 0)
            self.refused(NotThere, yard, cancel, yard, 0)
            ticks(yard, 3)
            self.refused(NotThere, yard, cancel, yard, 0)

    def test_one_that_a_train_has_passed_into(self):
        yard = station()
        set_route(yard, 0)
        enter(yard, 5, 0)
        self.refused(NotThere, yard, cancel, yard, 0)
        go(yard, 5)
        self.refused(NotThere, yard, cancel, yard, 0)
        self.assertEqual(locks(yard), [None, None, 0, None, None, None])

    def test_one_whose_signal_is_green_for_another_while_a_train_is_on_it(self):
        # The train has left the first piece, and a second route of one piece is set there.
        pieces = [("points", 0, 1, 2), ("plain", 1, 3), ("plain", 3, 4), ("plain", 2, 5)]
        yard = Yard(pieces, [(0, 0), (5, 3)], 1)
        set_route(yard, 0)
        enter(yard, 5, 0)
        go(yard, 5)
        draw(yard, 5)
        set_route(yard, 1)
        self.assertEqual(locks(yard), [1, None, 0, 1])
        self.refused(NotThere, yard, cancel, yard, 0)
        self.done(cancel, yard, 1)
        tick(yard)
        self.assertEqual(locks(yard), [None, None, 0, None])
        self.done(go, yard, 5)

    def test_one_that_may_be_set_again(self):
        yard = station()
        for count in range(3):
            set_route(yard, 6)
            self.done(cancel, yard, 6)


class TestFreeAtOnce(YardCase):
    def test_no_train_near(self):
        yard = station(5)
        for route in (2, 3, 6, 7):
            set_route(yard, route)
            self.done(cancel, yard, route)
            self.assertEqual(locks(yard), FREE)
            self.assertEqual(greens(yard), [])

    def test_other_routes_stay(self):
        yard = station(5)
        set_route(yard, 0)
        set_route(yard, 3)
        cancel(yard, 3)
        self.assertEqual(locks(yard), [0, 0, 0, None, None, None])
        self.assertEqual(greens(yard), [0])

    def test_a_train_that_faces_the_other_way(self):
        yard = station(5)
        bring(yard, 0, 0)
        set_route(yard, 6)
        cancel(yard, 6)
        self.assertEqual(locks(yard), FREE)

    def test_a_train_at_the_signal_that_has_turned(self):
        yard = station(5)
        bring(yard, 0, 0)
        set_route(yard, 2)
        turn(yard, 0)
        cancel(yard, 2)
        self.assertEqual(locks(yard), FREE)

    def test_a_train_at_another_signal(self):
        yard = station(5)
        bring(yard, 0, 0)
        set_route(yard, 3)
        cancel(yard, 3)
        self.assertEqual(locks(yard), FREE)

    def test_a_train_that_comes_but_is_not_at_the_signal_yet(self):
        yard = station(5)
        set_route(yard, 0)
        enter(yard, 0, 0)
        go(yard, 0)
        set_route(yard, 2)
        cancel(yard, 2)
        self.assertEqual(locks(yard), [None, None, 0, None, None, None])

    def test_a_train_whose_tail_is_at_the_signal(self):
        # Pieces 0 to 3 in a row; signal 1 stands between 1 and 2, for trains that come from 1.
        pieces = [("plain", n, n + 1) for n in range(4)]
        yard = Yard(pieces, [(0, 0), (2, 2), (4, 3), (2, 1)], 5)
        bring(yard, 0, 2)
        set_route(yard, 3)
        go(yard, 0)
        draw(yard, 0)
        self.assertEqual(yard.where(0), [1])
        set_route(yard, 1)
        cancel(yard, 1)
        self.assertEqual(locks(yard), [3, None, None, None])

    def test_a_train_that_is_out(self):
        yard = Yard([("plain", 0, 1), ("plain", 1, 2)], [(0, 0), (1, 1)], 5)
        bring(yard, 0, 0)
        drive(yard, 0, 1)
        go(yard, 0)
        self.refused(Held, yard, set_route, yard, 1)
        draw(yard, 0)
        set_route(yard, 1)
        cancel(yard, 1)
        self.assertEqual(locks(yard), [None, None])

    def test_a_wait_of_no_ticks(self):
        yard = station(0)
        set_route(yard, 0)
        cancel(yard, 0)
        self.assertEqual(locks(yard), FREE)
        self.refused(Red, yard, enter, yard, 0, 0)
        bring(yard, 0, 0)
        set_route(yard, 2)
        cancel(yard, 2)
        self.assertEqual(locks(yard), FREE)
        self.refused(Red, yard, go, yard, 0)

    def test_a_wait_beyond_its_bound_is_not_refused(self):
        yard = station(-1)
        set_route(yard, 0)
        cancel(yard, 0)
        self.assertEqual(locks(yard), FREE)


class TestFalls(YardCase):
    def falls(self, yard, route, held, wait):
        """Taken back, the route's pieces are locked for so many ticks and free with the last."""
        before = locks(yard)
        self.done(cancel, yard, route)
        self.assertEqual(greens(yard), [])
        for count in range(wait):
            self.assertEqual(locks(yard), before)
            self.refused(Held, yard, set_route, yard, route)
            self.refused(Held, yard, throw, yard, held)
            self.refused(NotThere, yard, cancel, yard, route)
            self.done(tick, yard)
        self.assertEqual(locks(yard), FREE)
        self.done(throw, yard, held)
        self.done(set_route, yard, route)

    def test_a_signal_at_a_border(self):
        for wait in (1, 2, 3, 10):
            for route in (0, 1):
                yard = station(wait)
                set_route(yard, route)
                self.falls(yard, route, 1, wait)
            for route in (4, 5):
                yard = station(wait)
                ticks(yard, 4)
                set_route(yard, route)
                ticks(yard, 4)
                self.falls(yard, route, 4, wait)

    def test_a_train_that_is_near(self):
        for wait in (1, 2, 3, 10):
            for come, route, held in ((0, 2, 4), (1, 3, 4), (4, 6, 1), (5, 7, 1)):
                yard = station(wait)
                bring(yard, 0, come)
                ticks(yard, 5)
                set_route(yard, route)
                self.falls(yard, route, held, wait)

    def test_a_train_that_is_near_with_its_tail_in_other_pieces(self):
        yard = station(1)
        set_route(yard, 0)
        enter(yard, 0, 0)
        go(yard, 0)
        go(yard, 0)
        self.assertEqual(yard.where(0), [2, 1, 0])
        set_route(yard, 2)
        self.falls(yard, 2, 4, 1)

    def test_a_train_that_is_near_as_it_has_turned(self):
        yard = station(2)
        bring(yard, 0, 0)
        turn(yard, 0)
        set_route(yard, 6)
        self.falls(yard, 6, 1, 2)

    def test_a_train_at_a_border_is_not_needed_nor_in_the_way(self):
        # The train stands at joint 0 and would go out there; the signal at joint 7 has none at all.
        yard = station(2)
        bring(yard, 0, 4)
        drive(yard, 0, 6)
        self.assertEqual(yard.where(0), [0])
        set_route(yard, 5)
        cancel(yard, 5)
        self.assertEqual(locks(yard), [None, None, None, 5, 5, 5])

    def test_a_wait_without_end(self):
        yard = station(999_999_999_999_999)
        set_route(yard, 0)
        cancel(yard, 0)
        ticks(yard, 300)
        self.assertEqual(locks(yard), [0, 0, 0, None, None, None])

    def test_each_route_falls_by_its_own_ticks(self):
        yard = station(3)
        set_route(yard, 0)
        set_route(yard, 5)
        cancel(yard, 0)
        tick(yard)
        cancel(yard, 5)
        ticks(yard, 1)
        self.assertEqual(locks(yard), [0, 0, 0, 5, 5, 5])
        tick(yard)
        self.assertEqual(locks(yard), [None, None, None, 5, 5, 5])
        tick(yard)
        self.assertEqual(locks(yard), FREE)

    def test_two_that_fall_by_the_same_tick(self):
        yard = station(1)
        set_route(yard, 0)
        set_route(yard, 5)
        cancel(yard, 5)
        cancel(yard, 0)
        tick(yard)
        self.assertEqual(locks(yard), FREE)

    def test_the_ticks_ahead_of_it_do_not_count_nor_those_of_an_earlier_fall(self):
        yard = station(2)
        for count in range(3):
            set_route(yard, 0)
            ticks(yard, 5)
            cancel(yard, 0)
            tick(yard)
            self.assertEqual(yard.lock_of(0), 0)
            tick(yard)
            self.assertIsNone(yard.lock_of(0))

    def test_only_the_signal_is_changed_at_first(self):
        yard = station(2)
        bring(yard, 0, 0)
        set_route(yard, 2)
        before = told(yard)
        cancel(yard, 2)
        self.assertEqual(told(yard), {**before, "greens": [False] * 6})

    def test_a_passed_route_does_not_fall_any_more(self):
        yard = station(1)
        set_route(yard, 0)
        cancel(yard, 0)
        self.done(enter, yard, 0, 0)
        ticks(yard, 4)
        self.assertEqual(locks(yard), [None, 0, 0, None, None, None])
        self.done(go, yard, 0)
        tick(yard)
        self.assertEqual(locks(yard), [None, None, 0, None, None, None])

    def test_a_route_that_is_passed_and_left_and_set_again_is_not_freed_by_its_old_ticks(self):
        yard = station(3)
        set_route(yard, 0)
        cancel(yard, 0)
        enter(yard, 0, 0)
        turn(yard, 0)
        go(yard, 0)
        draw(yard, 0)
        set_route(yard, 0)
        ticks(yard, 5)
        self.assertEqual(locks(yard), [0, 0, 0, None, None, None])
        self.assertEqual(greens(yard), [0])
