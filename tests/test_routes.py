"""[1.1], [1.2], [1.4]: how pieces are passed, where signals stand, which routes there are and their order."""

import unittest

from signalbox.routes import routes


class RouteCase(unittest.TestCase):
    def tells(self, pieces, signals, expected):
        self.assertEqual(routes(pieces, signals), expected)


class TestPassing(RouteCase):
    def test_a_plain_piece_both_ways(self):
        self.tells([("plain", 3, 4)], [(3, 0), (4, 0)], [(0, [(0, 3, 4)]), (1, [(0, 4, 3)])])

    def test_a_row_of_plain_pieces_both_ways(self):
        # The pieces' own ends stand in either order.
        pieces = [("plain", 10, 20), ("plain", 30, 20), ("plain", 30, 40)]
        self.tells(
            pieces,
            [(10, 0), (40, 2)],
            [(0, [(0, 10, 20), (1, 20, 30), (2, 30, 40)]), (1, [(2, 40, 30), (1, 30, 20), (0, 20, 10)])],
        )

    def test_points_from_t(self):
        self.tells([("points", 1, 2, 3)], [(1, 0)], [(0, [(0, 1, 2)]), (0, [(0, 1, 3)])])

    def test_points_from_t_by_s_first_though_its_joint_is_greater(self):
        self.tells([("points", 5, 9, 3)], [(5, 0)], [(0, [(0, 5, 9)]), (0, [(0, 5, 3)])])

    def test_points_from_s_and_from_b(self):
        self.tells([("points", 1, 2, 3)], [(2, 0), (3, 0)], [(0, [(0, 2, 1)]), (1, [(0, 3, 1)])])

    def test_points_within_a_way(self):
        pieces = [("plain", 0, 1), ("points", 1, 2, 3), ("plain", 2, 4), ("plain", 5, 3)]
        self.tells(
            pieces,
            [(0, 0), (4, 2), (5, 3)],
            [
                (0, [(0, 0, 1), (1, 1, 2), (2, 2, 4)]),
                (0, [(0, 0, 1), (1, 1, 3), (3, 3, 5)]),
                (1, [(2, 4, 2), (1, 2, 1), (0, 1, 0)]),
                (2, [(3, 5, 3), (1, 3, 1), (0, 1, 0)]),
            ],
        )

    def test_pieces_that_are_not_joined_have_no_part_in_a_way(self):
        self.tells([("plain", 0, 1), ("plain", 2, 3)], [(0, 0)], [(0, [(0, 0, 1)])])


class TestPointsBackToBack(RouteCase):
    def test_joined_at_t_and_t(self):
        self.tells(
            [("points", 1, 2, 3), ("points", 1, 4, 5)],
            [(2, 0), (3, 0), (5, 1)],
            [
                (0, [(0, 2, 1), (1, 1, 4)]),
                (0, [(0, 2, 1), (1, 1, 5)]),
                (1, [(0, 3, 1), (1, 1, 4)]),
                (1, [(0, 3, 1), (1, 1, 5)]),
                (2, [(1, 5, 1), (0, 1, 2)]),
                (2, [(1, 5, 1), (0, 1, 3)]),
            ],
        )

    def test_joined_at_s_and_s(self):
        self.tells(
            [("points", 1, 2, 3), ("points", 4, 2, 5)],
            [(1, 0), (5, 1)],
            [(0, [(0, 1, 2), (1, 2, 4)]), (0, [(0, 1, 3)]), (1, [(1, 5, 4)])],
        )

    def test_joined_at_b_and_b_as_a_crossover(self):
        self.tells(
            [("points", 1, 2, 3), ("points", 4, 5, 3)],
            [(1, 0), (4, 1)],
            [
                (0, [(0, 1, 2)]),
                (0, [(0, 1, 3), (1, 3, 4)]),
                (1, [(1, 4, 5)]),
                (1, [(1, 4, 3), (0, 3, 1)]),
            ],
        )

    def test_joined_at_s_and_b(self):
        self.tells(
            [("points", 1, 2, 3), ("points", 4, 5, 2)],
            [(1, 0)],
            [(0, [(0, 1, 2), (1, 2, 4)]), (0, [(0, 1, 3)])],
        )

    def test_joined_at_s_and_t(self):
        self.tells(
            [("points", 1, 2, 3), ("points", 2, 4, 5)],
            [(1, 0), (5, 1)],
            [
                (0, [(0, 1, 2), (1, 2, 4)]),
                (0, [(0, 1, 2), (1, 2, 5)]),
                (0, [(0, 1, 3)]),
                (1, [(1, 5, 2), (0, 2, 1)]),
            ],
        )

    def test_joined_by_both_branches(self):
        # A passing loop: two ways through, both over the same two pieces.
        self.tells(
            [("points", 1, 2, 3), ("points", 4, 2, 3)],
            [(1, 0)],
            [(0, [(0, 1, 2), (1, 2, 4)]), (0, [(0, 1, 3), (1, 3, 4)])],
        )


class TestSeveralPartings(RouteCase):
    def test_a_fan_of_four(self):
        # The joints and the pieces' numbers run against the order of the routes.
        pieces = [("points", 4, 11, 10), ("points", 5, 13, 12), ("points", 1, 5, 4)]
        self.tells(
            pieces,
            [(1, 2)],
            [
                (0, [(2, 1, 5), (1, 5, 13)]),
                (0, [(2, 1, 5), (1, 5, 12)]),
                (0, [(2, 1, 4), (0, 4, 11)]),
                (0, [(2, 1, 4), (0, 4, 10)]),
            ],
        )

    def test_a_ladder_by_its_branches(self):
        # The shortest way comes first: it parts by s at the first points.
        pieces = [("points", 1, 90, 2), ("points", 2, 91, 3), ("points", 3, 92, 4)]
        self.tells(
            pieces,
            [(1, 0)],
            [
                (0, [(0, 1, 90)]),
                (0, [(0, 1, 2), (1, 2, 91)]),
                (0, [(0, 1, 2), (1, 2, 3), (2, 3, 92)]),
                (0, [(0, 1, 2), (1, 2, 3), (2, 3, 4)]),
            ],
        )

    def test_a_ladder_by_its_straights(self):
        # The longest ways come first.
        pieces = [("points", 1, 2, 90), ("points", 2, 3, 91)]
        self.tells(
            pieces,
            [(1, 0)],
            [
                (0, [(0, 1, 2), (1, 2, 3)]),
                (0, [(0, 1, 2), (1, 2, 91)]),
                (0, [(0, 1, 90)]),
            ],
        )

    def test_two_passing_loops_with_a_piece_between(self):
        pieces = [
            ("points", 1, 2, 3), ("points", 4, 2, 3), ("plain", 5, 4), ("points", 5, 6, 7), ("points", 8, 7, 6),
        ]
        ways = [way for signal, way in routes(pieces, [(1, 0)])]
        self.assertEqual([way[0][2] for way in ways], [2, 2, 3, 3])
        self.assertEqual([way[3][2] for way in ways], [6, 7, 6, 7])
        self.assertEqual([[step[0] for step in way] for way in ways], [[0, 1, 2, 3, 4]] * 4)

    def test_eight_passing_loops_are_passed_in_256_ways_in_order(self):
        pieces = []
        for loop in range(8):
            first = 4 * loop
            pieces.append(("points", first, first + 2, first + 1))
            pieces.append(("points", first + 4, first + 2, first + 1))
        told = routes(pieces, [(0, 0)])
        self.assertEqual(len(told), 256)
        for number, (signal, way) in enumerate(told):
            self.assertEqual(signal, 0)
            self.assertEqual(len(way), 16)
            branches = [1 if way[2 * loop][2] % 4 == 1 else 0 for loop in range(8)]
            self.assertEqual(branches, [int(figure) for figure in f"{number:08b}"])


class TestWhereRoutesEnd(RouteCase):
    def test_one_step_to_a_border(self):
        self.tells([("plain", 0, 999)], [(0, 0)], [(0, [(0, 0, 999)])])

    def test_one_step_to_a_signal(self):
        self.tells(
            [("plain", 0, 1), ("plain", 1, 2)],
            [(0, 0), (1, 1)],
            [(0, [(0, 0, 1)]), (1, [(1, 1, 2)])],
        )

    def test_a_signal_for_the_other_direction_does_not_end_a_route(self):
        pieces = [("plain", 0, 1), ("plain", 1, 2)]
        self.tells(pieces, [(0, 0), (1, 0)], [(0, [(0, 0, 1), (1, 1, 2)]), (1, [(0, 1, 0)])])
        self.tells(pieces, [(2, 1), (1, 1)], [(0, [(1, 2, 1), (0, 1, 0)]), (1, [(1, 1, 2)])])

    def test_two_signals_at_one_joint_one_for_each_direction(self):
        pieces = [("plain", 0, 1), ("plain", 1, 2)]
        self.tells(
            pieces,
            [(0, 0), (1, 0), (1, 1), (2, 1)],
            [(0, [(0, 0, 1)]), (1, [(0, 1, 0)]), (2, [(1, 1, 2)]), (3, [(1, 2, 1)])],
        )

    def test_a_signal_that_stands_at_a_border_does_not_keep_a_route_from_ending_there(self):
        self.tells([("plain", 0, 1)], [(0, 0), (1, 0)], [(0, [(0, 0, 1)]), (1, [(0, 1, 0)])])

    def test_of_two_parting_ways_one_ends_at_a_signal(self):
        pieces = [("points", 1, 2, 3), ("plain", 2, 4), ("plain", 3, 5)]
        self.tells(
            pieces,
            [(1, 0), (2, 1)],
            [(0, [(0, 1, 2)]), (0, [(0, 1, 3), (2, 3, 5)]), (1, [(1, 2, 4)])],
        )

    def test_a_signal_ahead_of_points(self):
        pieces = [("plain", 0, 1), ("points", 1, 2, 3)]
        self.tells(
            pieces,
            [(0, 0), (1, 1)],
            [(0, [(0, 0, 1)]), (1, [(1, 1, 2)]), (1, [(1, 1, 3)])],
        )

    def test_a_signal_at_another_joint_of_the_piece_does_not_end_a_route(self):
        # The way comes into the points by s; the signal there is for those that come by b.
        pieces = [("plain", 0, 2), ("points", 1, 2, 3)]
        self.tells(pieces, [(0, 0), (3, 1)], [(0, [(0, 0, 2), (1, 2, 1)]), (1, [(1, 3, 1)])])


class TestRings(RouteCase):
    def test_a_ring_ends_at_its_own_signal(self):
        pieces = [("plain", 1, 2), ("plain", 2, 3), ("plain", 3, 1)]
        self.tells(pieces, [(1, 0)], [(0, [(0, 1, 2), (1, 2, 3), (2, 3, 1)])])
        self.tells(pieces, [(2, 0)], [(0, [(0, 2, 1), (2, 1, 3), (1, 3, 2)])])

    def test_two_pieces_with_two_joints_in_common(self):
        pieces = [("plain", 1, 2), ("plain", 1, 2)]
        self.tells(
            pieces,
            [(1, 0), (2, 0)],
            [(0, [(0, 1, 2), (1, 2, 1)]), (1, [(0, 2, 1), (1, 1, 2)])],
        )
        self.tells(pieces, [(1, 0), (2, 1)], [(0, [(0, 1, 2)]), (1, [(1, 2, 1)])])

    def test_points_with_all_three_joints_in_common(self):
        pieces = [("points", 1, 2, 3), ("points", 1, 2, 3)]
        self.tells(
            pieces,
            [(1, 0)],
            [(0, [(0, 1, 2), (1, 2, 1)]), (0, [(0, 1, 3), (1, 3, 1)])],
        )

    def test_a_way_that_would_pass_a_piece_twice_is_no_route(self):
        # A turning loop: the way comes back into the points, and no signal stops it there.
        self.tells([("points", 1, 2, 3), ("plain", 2, 3)], [(1, 0)], [])

    def test_a_loop_shut_by_a_signal_at_one_of_its_ends(self):
        # The route ends at a piece that it has passed, where a signal stands for it.
        self.tells(
            [("points", 1, 2, 3), ("plain", 2, 3)],
            [(1, 0), (3, 0)],
            [(0, [(0, 1, 2), (1, 2, 3)]), (1, [(0, 3, 1)])],
        )

    def test_a_signal_within_a_ring_that_leads_to_none_by_one_way(self):
        # By s it would come round into the first piece again; by b it goes out.
        pieces = [("plain", 1, 2), ("points", 2, 3, 9), ("points", 1, 3, 8)]
        self.tells(pieces, [(8, 2)], [(0, [(2, 8, 1), (0, 1, 2), (1, 2, 9)])])

    def test_a_signal_without_routes_keeps_its_number(self):
        pieces = [("points", 1, 2, 3), ("plain", 2, 3), ("plain", 7, 8)]
        self.tells(pieces, [(7, 2), (1, 0), (8, 2)], [(0, [(2, 7, 8)]), (2, [(2, 8, 7)])])


class TestNumbering(RouteCase):
    def test_by_the_signals_and_not_by_the_pieces(self):
        pieces = [("plain", 0, 1), ("plain", 1, 2), ("plain", 2, 3)]
        self.tells(
            pieces,
            [(2, 2), (0, 0), (1, 1)],
            [(0, [(2, 2, 3)]), (1, [(0, 0, 1)]), (2, [(1, 1, 2)])],
        )

    def test_by_the_signals_first_then_by_the_ways(self):
        pieces = [("points", 1, 2, 3), ("points", 4, 5, 6)]
        self.tells(
            pieces,
            [(4, 1), (3, 0), (1, 0)],
            [
                (0, [(1, 4, 5)]),
                (0, [(1, 4, 6)]),
                (1, [(0, 3, 1)]),
                (2, [(0, 1, 2)]),
                (2, [(0, 1, 3)]),
            ],
        )

    def test_the_pieces_in_another_order(self):
        self.tells(
            [("plain", 2, 4), ("points", 1, 2, 3), ("plain", 0, 1)],
            [(0, 2)],
            [(0, [(2, 0, 1), (1, 1, 2), (0, 2, 4)]), (0, [(2, 0, 1), (1, 1, 3)])],
        )


if __name__ == "__main__":
    unittest.main()
