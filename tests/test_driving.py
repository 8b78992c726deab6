"""[3.1] to [3.7]: trains that come in, go on, draw up, turn and go out, and all that is refused them."""

from signalbox.driving import draw, enter, go, turn
from signalbox.errors import Held, NotThere, Red
from signalbox.yards import Yard, cancel, set_route, throw, tick
from tests.helper import NAMES, NOWHERE, YardCase, bring, drive, greens, locks, station, told


def near_station(wait=3):
    """Train 5 stands in piece 2 at signal 1, whose route 2 is set and taken back."""
    yard = station(wait)
    bring(yard, 5, 0)
    set_route(yard, 2)
    cancel(yard, 2)
    return yard


class TestEnter(YardCase):
    def test_by_each_route_from_a_border(self):
        for route in (0, 1, 4, 5):
            for name in NAMES:
                yard = station()
                signal, way = yard.ways()[route]
                set_route(yard, route)
                before = told(yard)
                self.done(enter, yard, name, signal)
                first = way[0][0]
                self.assertEqual(yard.where(name), [first])
                self.assertEqual(yard.train_in(first), name)
                self.assertEqual(greens(yard), [])
                others = [step[0] for step in way[1:]]
                self.assertEqual(locks(yard), [route if piece in others else None for piece in range(6)])
                self.assertEqual([yard.train_in(piece) for piece in range(6) if piece != first], [None] * 5)
                self.assertEqual(told(yard)["lies"], before["lies"])

    def test_by_a_route_that_falls(self):
        yard = station(2)
        set_route(yard, 1)
        cancel(yard, 1)
        tick(yard)
        self.done(enter, yard, 0, 0)
        self.assertEqual(yard.where(0), [0])
        self.assertEqual(locks(yard), [None, 1, None, 1, None, None])
        tick(yard)
        self.assertEqual(locks(yard), [None, 1, None, 1, None, None])

    def test_red_once_it_has_fallen(self):
        yard = station(2)
        set_route(yard, 1)
        cancel(yard, 1)
        tick(yard)
        tick(yard)
        self.refused(Red, yard, enter, yard, 0, 0)

    def test_red_where_a_route_of_another_signal_falls(self):
        yard = station(9)
        set_route(yard, 0)
        cancel(yard, 0)
        self.refused(Red, yard, enter, yard, 5, 3)
        self.done(enter, yard, 5, 0)
        self.assertEqual(yard.where(5), [0])

    def test_by_its_own_route_of_several_that_fall(self):
        for signal, first in ((0, 0), (3, 5)):
            yard = station(9)
            for route in (0, 5):
                set_route(yard, route)
                cancel(yard, route)
            self.done(enter, yard, 5, signal)
            self.assertEqual(yard.where(5), [first])

    def test_red_where_none_is_set(self):
        yard = station()
        for signal in (0, 3):
            self.refused(Red, yard, enter, yard, 0, signal)
        set_route(yard, 0)
        self.refused(Red, yard, enter, yard, 0, 3)

    def test_red_behind_another_train(self):
        yard = station()
        set_route(yard, 0)
        enter(yard, 0, 0)
        self.refused(Red, yard, enter, yard, 5, 0)
        go(yard, 0)
        draw(yard, 0)
        self.refused(Red, yard, enter, yard, 5, 0)

    def test_not_there_where_the_signal_stands_at_no_border(self):
        yard = station()
        for signal, route in ((1, 2), (2, 3), (4, 6), (5, 7)):
            self.refused(NotThere, yard, enter, yard, 0, signal)
            set_route(yard, route)
            self.refused(NotThere, yard, enter, yard, 0, signal)
            cancel(yard, route)

    def test_held_where_the_name_is_there(self):
        yard = station()
        bring(yard, 0, 0)
        set_route(yard, 5)
        self.refused(Held, yard, enter, yard, 0, 3)
        self.done(enter, yard, 8, 3)

    def test_held_where_the_train_of_that_name_is_out_but_there(self):
        yard = station()
        bring(yard, 0, 0)
        drive(yard, 0, 2)
        go(yard, 0)
        set_route(yard, 0)
        self.refused(Held, yard, enter, yard, 0, 0)
        draw(yard, 0)
        self.done(enter, yard, 0, 0)

    def test_not_there_ahead_of_held_and_held_ahead_of_red(self):
        yard = station()
        bring(yard, 0, 0)
        for signal in NOWHERE + (1, 2, 4, 5, 6):
            self.refused(NotThere, yard, enter, yard, 0, signal)
            self.refused(NotThere, yard, enter, yard, 8, signal)
        self.refused(Held, yard, enter, yard, 0, 0)
        self.refused(Held, yard, enter, yard, 0, 3)
        self.refused(Red, yard, enter, yard, 8, 3)

    def test_several_trains(self):
        yard = station()
        for name, route in ((0, 0), (-7, 5)):
            bring(yard, name, route)
        self.assertEqual(told(yard)["trains"], [None, None, 0, -7, None, None])


class TestGo(YardCase):
    def test_through_the_pieces_ahead(self):
        yard = station()
        set_route(yard, 1)
        enter(yard, 0, 0)
        self.done(go, yard, 0)
        self.assertEqual(yard.where(0), [1, 0])
        self.assertEqual(locks(yard), [None, None, None, 1, None, None])
        self.done(go, yard, 0)
        self.assertEqual(yard.where(0), [3, 1, 0])
        self.assertEqual(locks(yard), [None] * 6)
        self.assertEqual(told(yard)["trains"], [0, 0, None, 0, None, None])

    def test_past_a_green_signal(self):
        yard = station()
        bring(yard, 0, 1)
        set_route(yard, 3)
        self.done(go, yard, 0)
        self.assertEqual(yard.where(0), [4, 3])
        self.assertEqual(locks(yard), [None, None, None, None, None, 3])
        self.assertEqual(greens(yard), [])

    def test_past_a_signal_whose_other_route_is_green(self):
        # The signal at joint 1 has a route by s and one by b; the train takes the one that is set.
        pieces = [("plain", 0, 1), ("points", 1, 2, 3)]
        for route, lie in ((1, "straight"), (2, "branch")):
            yard = Yard(pieces, [(0, 0), (1, 1)], 0)
            bring(yard, 0, 0)
            set_route(yard, route)
            go(yard, 0)
            draw(yard, 0)
            self.assertEqual(yard.lies(1), lie)
            self.assertEqual(yard.where(0), [1])
            self.done(go, yard, 0)
            self.refused(Red, yard, go, yard, 0)

    def test_red_at_a_red_signal(self):
        yard = station()
        bring(yard, 0, 0)
        self.refused(Red, yard, go, yard, 0)
        set_route(yard, 3)
        self.refused(Red, yard, go, yard, 0)

    def test_red_where_no_signal_stands(self):
        yard = station()
        set_route(yard, 0)
        enter(yard, 0, 0)
        go(yard, 0)
        turn(yard, 0)
        turn(yard, 0)
        self.assertEqual(locks(yard), [None] * 6)
        self.refused(Red, yard, go, yard, 0)

    def test_red_where_a_signal_stands_for_the_other_way_alone(self):
        yard = Yard([("plain", 0, 1), ("plain", 1, 2)], [(0, 0), (1, 0), (1, 1)], 1)
        bring(yard, 0, 0)
        set_route(yard, 2)
        go(yard, 0)
        draw(yard, 0)
        turn(yard, 0)
        self.refused(Red, yard, go, yard, 0)
        set_route(yard, 1)
        self.done(go, yard, 0)
        alone = Yard([("plain", 0, 1), ("plain", 1, 2)], [(0, 0), (1, 1)], 1)
        bring(alone, 0, 0)
        drive(alone, 0, 1)
        turn(alone, 0)
        self.refused(Red, alone, go, alone, 0)

    def test_out_at_a_border(self):
        yard = station()
        bring(yard, 0, 0)
        drive(yard, 0, 2)
        self.assertEqual(yard.where(0), [5])
        before = told(yard)
        self.done(go, yard, 0)
        self.assertEqual(told(yard), before)
        self.refused(Red, yard, go, yard, 0)

    def test_out_at_a_border_where_a_green_signal_stands(self):
        # Signal 0 stands there for trains that come in; it is not for this one, red or green.
        yard = Yard([("plain", 0, 1), ("plain", 1, 2)], [(0, 0), (2, 1), (1, 1)], 0)
        bring(yard, 0, 1)
        self.assertEqual(yard.where(0), [0])
        self.done(go, yard, 0)
        self.done(draw, yard, 0)
        self.refused(NotThere, yard, go, yard, 0)

    def test_red_if_it_is_out_already_with_pieces_left(self):
        yard = station()
        bring(yard, 0, 0)
        set_route(yard, 2)
        for count in range(3):
            go(yard, 0)
        self.assertEqual(yard.where(0), [5, 4, 2])
        self.refused(Red, yard, go, yard, 0)
        draw(yard, 0)
        self.refused(Red, yard, go, yard, 0)

    def test_round_and_round(self):
        # A ring with one way in; the route round it ends at its own signal.
        pieces = [("plain", 9, 0), ("points", 1, 3, 0), ("plain", 1, 2), ("plain", 2, 3)]
        yard = Yard(pieces, [(9, 0), (2, 3)], 1)
        self.assertEqual(
            yard.ways(),
            [
                (0, [(0, 9, 0), (1, 0, 1), (2, 1, 2)]),
                (1, [(3, 2, 3), (1, 3, 1), (2, 1, 2)]),
            ],
        )
        bring(yard, 0, 0)
        self.refused(Held, yard, set_route, yard, 1)
        self.refused(Red, yard, go, yard, 0)


class TestNear(YardCase):
    def test_it_passes_while_the_route_falls(self):
        yard = near_station()
        tick(yard)
        tick(yard)
        self.done(go, yard, 5)
        self.assertEqual(yard.where(5), [4, 2])
        self.assertEqual(locks(yard), [None, None, None, None, None, 2])
        for count in range(4):
            tick(yard)
        self.assertEqual(locks(yard), [None, None, None, None, None, 2])
        self.done(go, yard, 5)
        self.assertEqual(yard.where(5), [5, 4, 2])

    def test_at_once_too(self):
        yard = near_station()
        self.done(go, yard, 5)

    def test_not_when_it_has_fallen(self):
        yard = near_station(2)
        tick(yard)
        tick(yard)
        self.refused(Red, yard, go, yard, 5)

    def test_not_when_it_has_turned(self):
        yard = near_station()
        turn(yard, 5)
        self.refused(Red, yard, go, yard, 5)
        turn(yard, 5)
        self.refused(Red, yard, go, yard, 5)
        self.assertEqual(locks(yard), [None, None, None, None, 2, 2])
        for count in range(3):
            tick(yard)
        self.assertEqual(locks(yard), [None] * 6)
        set_route(yard, 2)
        self.done(go, yard, 5)

    def test_not_when_another_has_turned(self):
        yard = station(3)
        bring(yard, 5, 0)
        bring(yard, 0, 5)
        set_route(yard, 2)
        cancel(yard, 2)
        turn(yard, 0)
        self.done(go, yard, 5)

    def test_turned_ahead_of_it_does_not_count(self):
        yard = station()
        bring(yard, 5, 0)
        turn(yard, 5)
        turn(yard, 5)
        set_route(yard, 2)
        cancel(yard, 2)
        self.done(go, yard, 5)

    def test_a_new_fall_counts_anew(self):
        yard = near_station(1)
        turn(yard, 5)
        tick(yard)
        turn(yard, 5)
        set_route(yard, 2)
        cancel(yard, 2)
        self.done(go, yard, 5)

    def test_not_by_a_fall_when_it_was_not_near(self):
        # Route 2 is of signal 1; the train comes to signal 1 once it is taken back, as another was near.
        yard = station(50)
        bring(yard, 5, 0)
        set_route(yard, 2)
        cancel(yard, 2)
        turn(yard, 5)
        drive(yard, 5, 6)
        self.done(go, yard, 5)
        self.done(draw, yard, 5)
        for name in (8, 5):
            bring(yard, name, 0)
            self.assertEqual(locks(yard), [None, None, None, None, 2, 2])
            self.refused(Red, yard, go, yard, name)
            turn(yard, name)
            drive(yard, name, 6)
            go(yard, name)
            draw(yard, name)

    def test_not_by_the_fall_of_another_signal(self):
        # Both falls are at hand: train 5 was near signal 1, train 0 is at signal 2.
        yard = near_station(9)
        bring(yard, 0, 1)
        self.refused(Red, yard, go, yard, 0)
        self.done(go, yard, 5)

    def test_two_falls_for_two_trains(self):
        # Two lines side by side.
        pieces = [("plain", 0, 1), ("plain", 1, 2), ("plain", 10, 11), ("plain", 11, 12)]
        yard = Yard(pieces, [(0, 0), (1, 1), (10, 2), (11, 3)], 4)
        bring(yard, 0, 0)
        bring(yard, 5, 2)
        for route in (1, 3):
            set_route(yard, route)
            cancel(yard, route)
        turn(yard, 5)
        turn(yard, 5)
        self.refused(Red, yard, go, yard, 5)
        self.done(go, yard, 0)
        self.assertEqual(locks(yard), [None, None, None, 3])
        self.refused(Red, yard, go, yard, 5)

    def test_a_border_lets_in_whoever_turned(self):
        yard = station(9)
        set_route(yard, 0)
        cancel(yard, 0)
        bring(yard, 5, 5)
        turn(yard, 5)
        self.done(enter, yard, 8, 0)
        self.assertEqual(yard.where(8), [0])


class TestDraw(YardCase):
    def test_the_last_of_its_pieces(self):
        yard = station()
        set_route(yard, 0)
        enter(yard, 0, 0)
        go(yard, 0)
        go(yard, 0)
        for left in ([2, 1], [2]):
            self.done(draw, yard, 0)
            self.assertEqual(yard.where(0), left)
            self.assertEqual([piece for piece in range(6) if yard.train_in(piece) == 0], sorted(left))

    def test_held_in_one_piece_alone(self):
        yard = station()
        set_route(yard, 0)
        enter(yard, 0, 0)
        self.refused(Held, yard, draw, yard, 0)
        go(yard, 0)
        self.done(draw, yard, 0)
        self.refused(Held, yard, draw, yard, 0)
        self.assertEqual(locks(yard), [None, None, 0, None, None, None])

    def test_held_at_a_border_before_it_is_out(self):
        yard = station()
        bring(yard, 0, 0)
        drive(yard, 0, 2)
        self.refused(Held, yard, draw, yard, 0)
        go(yard, 0)
        self.done(draw, yard, 0)

    def test_out_and_no_more_there(self):
        yard = station()
        bring(yard, 0, 0)
        set_route(yard, 2)
        for count in range(3):
            go(yard, 0)
        for left in ([5, 4], [5]):
            self.done(draw, yard, 0)
            self.assertEqual(yard.where(0), left)
        self.done(draw, yard, 0)
        self.assertEqual(told(yard)["trains"], [None] * 6)
        for deed in (go, draw, turn):
            self.refused(NotThere, yard, deed, yard, 0)
        self.refused(NotThere, yard, yard.where, 0)

    def test_a_new_one_of_that_name(self):
        yard = station()
        for count in range(2):
            bring(yard, 0, 0)
            drive(yard, 0, 2)
            go(yard, 0)
            draw(yard, 0)
        bring(yard, 0, 5)
        self.refused(Held, yard, draw, yard, 0)


class TestTurn(YardCase):
    def test_the_tail_is_the_head(self):
        yard = station()
        set_route(yard, 0)
        enter(yard, 0, 0)
        go(yard, 0)
        go(yard, 0)
        before = told(yard)
        self.done(turn, yard, 0)
        self.assertEqual(yard.where(0), [0, 1, 2])
        self.assertEqual(told(yard)["trains"], before["trains"])
        self.done(draw, yard, 0)
        self.assertEqual(yard.where(0), [0, 1])
        self.done(turn, yard, 0)
        self.assertEqual(yard.where(0), [1, 0])

    def test_the_pieces_ahead_are_free(self):
        yard = station(9)
        set_route(yard, 0)
        set_route(yard, 3)
        enter(yard, 0, 0)
        self.done(turn, yard, 0)
        self.assertEqual(locks(yard), [None, None, None, None, 3, 3])
        self.assertEqual(yard.where(0), [0])
        self.done(throw, yard, 1)

    def test_other_pieces_stay_locked_for_the_route_of_another(self):
        yard = station(9)
        bring(yard, 0, 0)
        set_route(yard, 2)
        go(yard, 0)
        draw(yard, 0)
        bring(yard, 5, 0)
        self.assertEqual(locks(yard), [None, None, None, None, None, 2])
        turn(yard, 5)
        self.assertEqual(locks(yard), [None, None, None, None, None, 2])
        turn(yard, 0)
        self.assertEqual(locks(yard), [None] * 6)

    def test_a_route_set_again_for_another_stays(self):
        # The train has come to its route's end; the same route is then set for the next one.
        yard = station(9)
        bring(yard, 0, 0)
        drive(yard, 0, 2)
        set_route(yard, 0)
        turn(yard, 0)
        self.assertEqual(locks(yard), [0, 0, 0, None, None, None])
        self.assertEqual(greens(yard), [0])

    def test_out_by_the_way_that_it_came(self):
        yard = station()
        set_route(yard, 0)
        enter(yard, 0, 0)
        go(yard, 0)
        turn(yard, 0)
        self.done(go, yard, 0)
        self.refused(Red, yard, go, yard, 0)
        self.done(draw, yard, 0)
        self.assertEqual(yard.where(0), [0])
        self.done(draw, yard, 0)
        self.refused(NotThere, yard, yard.where, 0)

    def test_past_the_signal_behind_it(self):
        yard = station()
        bring(yard, 0, 1)
        turn(yard, 0)
        self.refused(Red, yard, go, yard, 0)
        set_route(yard, 7)
        self.done(go, yard, 0)
        self.assertEqual(yard.where(0), [1, 3])

    def test_twice_is_as_it_was_but_for_the_pieces_ahead(self):
        yard = station()
        bring(yard, 0, 0)
        before = told(yard)
        turn(yard, 0)
        turn(yard, 0)
        self.assertEqual(told(yard), before)
        set_route(yard, 2)
        self.done(go, yard, 0)

    def test_red_if_its_head_is_out(self):
        yard = station()
        bring(yard, 0, 0)
        set_route(yard, 2)
        go(yard, 0)
        go(yard, 0)
        self.done(turn, yard, 0)
        self.done(turn, yard, 0)
        go(yard, 0)
        for left in ([5, 4, 2], [5, 4], [5]):
            self.assertEqual(yard.where(0), left)
            self.refused(Red, yard, turn, yard, 0)
            draw(yard, 0)
        self.refused(NotThere, yard, turn, yard, 0)

    def test_a_refused_one_is_none(self):
        # Out with its tail at hand, the train is still not turned: it draws up from its tail.
        yard = station()
        bring(yard, 0, 0)
        set_route(yard, 2)
        for count in range(3):
            go(yard, 0)
        self.refused(Red, yard, turn, yard, 0)
        draw(yard, 0)
        self.assertEqual(yard.where(0), [5, 4])


class TestNames(YardCase):
    def test_not_there(self):
        yard = station()
        bring(yard, 5, 0)
        for name in (0, 4, -5, 6, 999_999_999_999_999, -999_999_999_999_999):
            for deed in (go, draw, turn):
                self.refused(NotThere, yard, deed, yard, name)
            self.refused(NotThere, yard, yard.where, name)

    def test_a_train_called_0_holds_its_piece(self):
        yard = station()
        bring(yard, 0, 0)
        self.assertEqual(yard.train_in(2), 0)
        self.refused(Held, yard, set_route, yard, 0)

    def test_a_piece_locked_for_route_0_is_held(self):
        yard = station()
        set_route(yard, 0)
        self.assertEqual(yard.lock_of(1), 0)
        self.refused(Held, yard, throw, yard, 1)
        self.refused(Held, yard, set_route, yard, 6)
