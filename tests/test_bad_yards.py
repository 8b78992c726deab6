"""[1.3]: which yards are bad, and which just are not; [0.3]: any whole number may be handed in."""

import itertools
import unittest

from signalbox.errors import BadYard
from signalbox.routes import routes
from signalbox.yards import Yard

FIFTEEN_FIGURES = 999_999_999_999_999


def chain(count):
    """So many plain pieces in a row: piece n lies between the joints n and n + 1."""
    return [("plain", joint, joint + 1) for joint in range(count)]


class YardCase(unittest.TestCase):
    def bad(self, pieces, signals):
        with self.subTest(pieces=pieces, signals=signals):
            with self.assertRaises(BadYard):
                routes(pieces, signals)
            with self.assertRaises(BadYard):
                Yard(pieces, signals, 1)

    def good(self, pieces, signals):
        with self.subTest(pieces=pieces, signals=signals):
            self.assertIsInstance(routes(pieces, signals), list)
            self.assertIsInstance(Yard(pieces, signals, 1), Yard)


class TestPieceCounts(YardCase):
    def test_no_piece(self):
        self.bad([], [])

    def test_no_piece_but_a_signal(self):
        self.bad([], [(0, 0)])

    def test_one_to_sixteen_pieces(self):
        for count in range(1, 17):
            self.good(chain(count), [])

    def test_sixteen_pieces_are_all_there(self):
        self.assertEqual(len(routes(chain(16), [(0, 0)])[0][1]), 16)

    def test_seventeen_pieces_and_more(self):
        self.bad(chain(17), [])
        self.bad(chain(40), [])

    def test_seventeen_pieces_apart(self):
        self.bad([("plain", 2 * n, 2 * n + 1) for n in range(17)], [])


class TestJoints(YardCase):
    def pieces_with(self, joint):
        """Each kind of piece with the joint at each of its ends."""
        return [
            ("plain", joint, 5),
            ("plain", 5, joint),
            ("points", joint, 5, 6),
            ("points", 5, joint, 6),
            ("points", 5, 6, joint),
        ]

    def test_joints_at_the_bounds(self):
        for joint in (0, 999):
            for piece in self.pieces_with(joint):
                self.good([piece], [])
        self.good([("plain", 0, 999)], [(0, 0), (999, 0)])

    def test_joints_beyond_the_bounds(self):
        for joint in (-1, 1000, -FIFTEEN_FIGURES, FIFTEEN_FIGURES):
            for piece in self.pieces_with(joint):
                self.bad([piece], [])

    def test_a_bad_joint_in_the_last_piece(self):
        for joint in (-1, 1000):
            for piece in self.pieces_with(joint):
                self.bad([("plain", 20, 21), ("points", 22, 23, 24), piece], [])

    def test_a_joint_twice_in_a_plain_piece(self):
        for joint in (0, 7, 999):
            self.bad([("plain", joint, joint)], [])

    def test_a_joint_twice_in_points(self):
        self.bad([("points", 1, 1, 2)], [])
        self.bad([("points", 1, 2, 1)], [])
        self.bad([("points", 2, 1, 1)], [])
        self.bad([("points", 1, 1, 1)], [])

    def test_a_joint_twice_in_the_last_piece(self):
        self.bad([("plain", 0, 1), ("plain", 1, 2), ("plain", 3, 3)], [])

    def test_a_joint_of_two_pieces(self):
        for piece in self.pieces_with(1):
            self.good([("plain", 0, 1), piece], [])
            self.good([piece, ("points", 0, 2, 1)], [])

    def test_a_joint_of_three_pieces(self):
        for piece in self.pieces_with(1):
            yard = [("plain", 0, 1), ("plain", 1, 2), piece]
            for order in itertools.permutations(yard):
                self.bad(list(order), [])

    def test_a_joint_of_three_pieces_that_are_alike(self):
        self.bad([("plain", 0, 1)] * 3, [])
        self.good([("plain", 0, 1)] * 2, [])

    def test_a_joint_of_many_pieces(self):
        self.bad([("plain", 500, n) for n in range(16)], [])


class TestSignalCounts(YardCase):
    def all_signals(self, count):
        """So many signals of a chain of nine pieces, which has room for eighteen."""
        both = [(n + end, n) for n in range(9) for end in (0, 1)]
        return both[:count]

    def test_no_signal_to_sixteen(self):
        for count in range(17):
            self.good(chain(9), self.all_signals(count))

    def test_no_signal_gives_no_route(self):
        self.assertEqual(routes(chain(9), []), [])

    def test_seventeen_signals_and_more(self):
        self.bad(chain(9), self.all_signals(17))
        self.bad(chain(9), self.all_signals(18))


class TestSignals(YardCase):
    def test_a_signal_twice(self):
        self.bad([("plain", 0, 1)], [(0, 0), (0, 0)])
        self.bad(chain(3), [(0, 0), (1, 1), (3, 2), (1, 1)])

    def test_the_same_joint_or_the_same_piece_twice_is_good(self):
        self.good(chain(2), [(1, 0), (1, 1)])
        self.good(chain(2), [(0, 0), (1, 0)])

    def test_a_piece_that_is_not_there(self):
        # The joint is one of the last piece's, which an index of -1 would find.
        self.bad(chain(3), [(3, -1)])
        self.bad(chain(3), [(0, -3)])
        self.bad(chain(3), [(3, 3)])
        self.bad(chain(3), [(0, FIFTEEN_FIGURES)])
        self.bad(chain(3), [(0, -FIFTEEN_FIGURES)])

    def test_first_and_last_piece(self):
        self.good(chain(3), [(0, 0)])
        self.good(chain(3), [(3, 2)])

    def test_a_joint_that_the_piece_has_not(self):
        self.bad(chain(3), [(2, 0)])
        self.bad(chain(3), [(0, 1)])
        self.bad([("points", 0, 1, 2), ("plain", 2, 3)], [(3, 0)])

    def test_a_joint_that_no_piece_has(self):
        for joint in (-1, 4, 999, 1000, FIFTEEN_FIGURES, -FIFTEEN_FIGURES):
            self.bad(chain(3), [(joint, 0)])

    def test_a_bad_signal_behind_good_ones(self):
        self.bad(chain(3), [(0, 0), (3, 2), (0, 2)])
        self.bad(chain(3), [(0, 0), (3, 2), (3, 3)])

    def test_each_end_of_points_may_have_a_signal(self):
        self.good([("points", 4, 5, 6)], [(4, 0), (5, 0), (6, 0)])

    def test_numbers_alike_but_of_different_use(self):
        # The piece's number is among the joints and the joint among the numbers of the pieces.
        self.bad([("plain", 5, 6), ("plain", 0, 1)], [(0, 0)])
        self.bad([("plain", 5, 6), ("plain", 0, 1)], [(1, 0)])


if __name__ == "__main__":
    unittest.main()
