"""Promise 5: best answers the greatest sum, and the corners where it is reached, behind their dimension."""

import unittest

from bodyfaces.bodies import best
from tests import oracle

LEAST, MOST = -2147483648, 2147483647


class WhereItIsReached(unittest.TestCase):
    def test_at_one_corner(self):
        self.assertEqual(best(3, 1, [3, 7, -2], [5]), [0, 35, 0b010])
        self.assertEqual(best(3, 1, [3, 7, -2], [-5]), [0, 10, 0b100])
        self.assertEqual(best(4, 2, oracle.SQUARE, [1, 3]), [0, 8, 0b1000])
        self.assertEqual(best(4, 2, oracle.SQUARE, [3, -1]), [0, 6, 0b0010])
        self.assertEqual(best(8, 3, oracle.CUBE, [-1, 2, 3]), [0, 5, 1 << 6])
        self.assertEqual(best(5, 4, oracle.SIMPLEX4, [1, 2, 4, 3]), [0, 4, 0b01000])
        self.assertEqual(best(5, 4, oracle.SIMPLEX4, [-1, -2, -4, -3]), [0, 0, 0b00001])

    def test_along_an_edge(self):
        self.assertEqual(best(4, 2, oracle.SQUARE, [1, 0]), [1, 2, 0b1010])
        self.assertEqual(best(4, 2, oracle.SQUARE, [0, -4]), [1, 0, 0b0011])
        self.assertEqual(best(8, 3, oracle.CUBE, [0, 2, 5]), [1, 7, 0b11000000])
        self.assertEqual(best(5, 4, oracle.SIMPLEX4, [1, 9, 0, 9]), [1, 9, 0b10100])

    def test_over_a_side(self):
        self.assertEqual(best(8, 3, oracle.CUBE, [0, 0, -2]), [2, 0, 0b00001111])
        self.assertEqual(best(6, 3, oracle.OCTAHEDRON, [4, -4, 4]), [2, 4, 0b011001])
        self.assertEqual(best(5, 4, oracle.SIMPLEX4, [6, 6, 6, 6]), [3, 6, 0b11110])
        self.assertEqual(best(8, 4, oracle.CROSS4, [1, -1, 1, -1]), [3, 1, 0b10011001])

    def test_over_a_face_of_four_dimensions_that_is_no_side(self):
        self.assertEqual(best(5, 4, oracle.SIMPLEX4, [0, 8, 8, 8]), [2, 8, 0b11100])

    def test_over_the_whole_body(self):
        for n, d, p, told in ((1, 1, [6], [0, 0, 1]), (3, 1, [6, -6, 0], [1, 0, 3]), (4, 2, oracle.SQUARE, [2, 0, 15]),
                              (8, 3, oracle.CUBE, [3, 0, 255]), (9, 4, oracle.CURVE4, [4, 0, 511])):
            self.assertEqual(best(n, d, p, [0] * d), told)
        # A square in the plane where the third coordinate is 9.
        lifted = oracle.flat([(a, b, 9) for a, b in oracle.points_of(4, 2, oracle.SQUARE)])
        self.assertEqual(best(4, 3, lifted, [0, 0, 4]), [2, 36, 15])
        self.assertEqual(best(4, 3, lifted, [0, 0, -4]), [2, -36, 15])


class PointsThatAreNoCorners(unittest.TestCase):
    def test_within_an_edge_they_reach_it_and_are_not_told(self):
        self.assertEqual(best(5, 2, [2, 1] + oracle.SQUARE, [1, 0]), [1, 2, 0b10100])
        self.assertEqual(best(4, 3, [0, 0, 0, 3, 3, 3, 1, 1, 1, 2, 2, 2], [1, -1, 0]), [1, 0, 0b0011])

    def test_within_a_side(self):
        crowded = [1, 1, 2] + oracle.doubled(oracle.CUBE)
        self.assertEqual(best(9, 3, crowded, [0, 0, 3]), [2, 6, 0b111100000])

    def test_within_the_body(self):
        self.assertEqual(best(4, 1, [4, 5, 6, 7], [0]), [1, 0, 0b1001])
        self.assertEqual(best(6, 2, [1, 1, 1, 0] + oracle.SQUARE, [0, 0]), [2, 0, 0b111100])

    def test_equal_to_a_corner_before_them(self):
        self.assertEqual(best(4, 1, [3, 9, 9, 3], [2]), [0, 18, 0b0010])
        self.assertEqual(best(4, 1, [3, 9, 9, 3], [-2]), [0, -6, 0b0001])
        self.assertEqual(best(6, 2, oracle.SQUARE + [2, 2, 0, 2], [0, 1]), [1, 2, 0b001100])

    def test_points_all_equal(self):
        for n, d in ((12, 1), (12, 2), (9, 3), (9, 4)):
            self.assertEqual(best(n, d, [-7] * (n * d), [3] * d), [0, -21 * d, 1])


class TheSum(unittest.TestCase):
    def test_below_0(self):
        self.assertEqual(best(3, 1, [3, 7, 5], [-2]), [0, -6, 0b001])
        away = [x - 10 for x in oracle.SQUARE]
        self.assertEqual(best(4, 2, away, [1, 1]), [0, -16, 0b1000])
        self.assertEqual(best(4, 2, away, [0, 1]), [1, -8, 0b1100])
        # -1 and -2 are sums here, not refusals.
        self.assertEqual(best(1, 1, [-1], [1]), [0, -1, 1])
        self.assertEqual(best(1, 2, [-1, 1], [1, -1]), [0, -2, 1])

    def test_one_point(self):
        self.assertEqual(best(1, 4, [1, -2, 3, -4], [5, 6, 7, 8]), [0, 5 - 12 + 21 - 32, 1])

    def test_each_coordinate_has_its_own_number(self):
        for axis in range(4):
            a = [int(other == axis) for other in range(4)]
            self.assertEqual(best(8, 4, oracle.CROSS4, a), [0, 1, 1 << 2 * axis])
            self.assertEqual(best(1, 4, [10, 200, 3000, 14000], a), [0, [10, 200, 3000, 14000][axis], 1])


class FewerDimensions(unittest.TestCase):
    def test_a_segment_beyond_the_line(self):
        segment = [0, 1, 0, 5, 0, 3, 0, 9, 0, 2, 0, 7]
        self.assertEqual(best(3, 4, segment, [9, 0, 9, 0]), [1, 0, 0b011])
        self.assertEqual(best(3, 4, segment, [0, 1, 0, 1]), [0, 12, 0b010])
        self.assertEqual(best(3, 4, segment, [0, -2, 0, 1]), [1, 3, 0b011])

    def test_a_square_in_space(self):
        tilted = oracle.flat([(a, b, a - b) for a, b in oracle.points_of(4, 2, oracle.SQUARE)])
        self.assertEqual(best(4, 3, tilted, [1, -1, -1]), [2, 0, 0b1111])
        self.assertEqual(best(4, 3, tilted, [0, 0, 1]), [0, 2, 0b0010])
        self.assertEqual(best(4, 3, tilted, [0, 1, 1]), [1, 2, 0b1010])


class Extremes(unittest.TestCase):
    def test_all_at_both_ends(self):
        self.assertEqual(best(2, 1, [-32768, 32767], [MOST]), [0, 32767 * MOST, 0b10])
        self.assertEqual(best(2, 1, [-32768, 32767], [LEAST]), [0, 32768 * 2147483648, 0b01])
        self.assertEqual(best(1, 4, [-32768] * 4, [MOST] * 4), [0, -4 * 32768 * MOST, 1])
        self.assertEqual(best(1, 4, [32767] * 4, [LEAST] * 4), [0, 4 * 32767 * LEAST, 1])
        self.assertEqual(best(1, 4, [-32768] * 4, [LEAST] * 4), [0, 2 ** 48, 1])

    def test_a_body_at_both_ends(self):
        stretched = [32767 if x else -32768 for x in oracle.CUBE]
        self.assertEqual(best(8, 3, stretched, [MOST, LEAST, 0]), [1, 32767 * MOST + 2 ** 46, 0b00100010])
        self.assertEqual(best(8, 3, stretched, [LEAST, LEAST, MOST]), [0, 2 ** 47 + 32767 * MOST, 0b00010000])
        self.assertEqual(best(8, 3, stretched, [0, 0, LEAST]), [2, 2 ** 46, 0b00001111])

    def test_sums_that_differ_by_one(self):
        self.assertEqual(best(2, 2, [32767, -32768, 32766, -32767], [MOST, MOST - 1]),
                         [0, 32767 * MOST - 32768 * (MOST - 1), 0b01])
        self.assertEqual(best(2, 2, [32767, -32768, 32766, -32767], [MOST - 1, MOST]),
                         [0, 32766 * (MOST - 1) - 32767 * MOST, 0b10])

    def test_as_many_points_as_are_asked_of(self):
        self.assertEqual(best(12, 1, list(range(12)), [-3]), [0, 0, 1])
        self.assertEqual(best(12, 2, oracle.TWELVE_GON, [0, 1]), [0, 36, 1])
        self.assertEqual(best(12, 2, oracle.TWELVE_GON, [-1, -1]), [1, 0, 0b000001100000])
        self.assertEqual(best(9, 3, oracle.CUBE + [2, 2, 2], [1, 1, 1]), [0, 6, 1 << 8])
        self.assertEqual(best(9, 4, oracle.TRIANGLES4, [1, 1, 1, 1]), [2, 2, 0b110110000])


class AgainstTheSecondWay(unittest.TestCase):
    def check(self, seed, bodies, reach):
        numbers = oracle.Numbers(seed)
        for n, d, p in bodies:
            for turn in range(4):
                a = [numbers.pick(-reach - 1, reach) for axis in range(d)]
                with self.subTest(n=n, d=d, p=p, a=a):
                    self.assertEqual(best(n, d, p, a), oracle.best(n, d, p, a))

    def test_small_numbers(self):
        self.check(41, oracle.sample_bodies(41, 60, 1), 1)
        self.check(42, oracle.sample_bodies(42, 60, 4), 2)

    def test_numbers_of_every_size(self):
        self.check(43, oracle.sample_bodies(43, 40, 32767), MOST)

    def test_twelve_points(self):
        numbers = oracle.Numbers(44)
        for d, reach in ((1, 5), (2, 2), (2, 32767)):
            self.check(45, [(12, d, [numbers.pick(-reach - 1, reach) for i in range(12 * d)])], 2)


if __name__ == "__main__":
    unittest.main()
