"""Promise 4: in_body answers the dimension of the least face round x, then that face; -1 alone if x is outside."""

import unittest

from bodyfaces.bodies import in_body
from tests import oracle

LEAST, MOST = -2147483648, 2147483647
CUBE = oracle.doubled(oracle.CUBE)
SIMPLEX4 = [4 * x for x in oracle.SIMPLEX4]


class InTheBody(unittest.TestCase):
    def test_a_corner(self):
        for n, d, p in ((2, 1, [6, -6]), (4, 2, oracle.SQUARE), (8, 3, CUBE), (5, 4, SIMPLEX4), (8, 4, oracle.CROSS4)):
            for i, point in enumerate(oracle.points_of(n, d, p)):
                self.assertEqual(in_body(n, d, p, list(point)), [0, 1 << i])

    def test_within_an_edge(self):
        self.assertEqual(in_body(4, 2, oracle.SQUARE, [1, 0]), [1, 0b0011])
        self.assertEqual(in_body(4, 2, oracle.SQUARE, [2, 1]), [1, 0b1010])
        self.assertEqual(in_body(8, 3, CUBE, [2, 1, 2]), [1, 0b10100000])
        self.assertEqual(in_body(5, 4, SIMPLEX4, [0, 3, 1, 0]), [1, 0b01100])

    def test_within_a_side(self):
        self.assertEqual(in_body(8, 3, CUBE, [1, 1, 0]), [2, 0b1111])
        self.assertEqual(in_body(8, 3, CUBE, [1, 1, 2]), [2, 0b11110000])
        self.assertEqual(in_body(5, 4, SIMPLEX4, [1, 1, 1, 1]), [3, 0b11110])
        self.assertEqual(in_body(5, 4, SIMPLEX4, [1, 1, 1, 0]), [3, 0b01111])

    def test_within_a_face_of_four_dimensions_that_is_no_side(self):
        self.assertEqual(in_body(5, 4, SIMPLEX4, [1, 1, 2, 0]), [2, 0b01110])
        self.assertEqual(in_body(9, 4, oracle.doubled(oracle.TRIANGLES4), [1, 0, 1, 0]), [2, 0b000011011])

    def test_within_the_body(self):
        self.assertEqual(in_body(2, 1, [6, -6], [5]), [1, 0b11])
        self.assertEqual(in_body(4, 2, oracle.SQUARE, [1, 1]), [2, 0b1111])
        self.assertEqual(in_body(8, 3, CUBE, [1, 1, 1]), [3, 255])
        self.assertEqual(in_body(6, 3, oracle.OCTAHEDRON, [0, 0, 0]), [3, 63])
        self.assertEqual(in_body(5, 4, [5 * x for x in oracle.SIMPLEX4], [1, 1, 1, 1]), [4, 31])
        self.assertEqual(in_body(8, 4, oracle.CROSS4, [0, 0, 0, 0]), [4, 255])

    def test_at_points_that_are_no_corners(self):
        crowded = oracle.SQUARE + [1, 0, 1, 1, 0, 0]
        self.assertEqual(in_body(7, 2, crowded, [1, 0]), [1, 0b0011])
        self.assertEqual(in_body(7, 2, crowded, [1, 1]), [2, 0b1111])
        self.assertEqual(in_body(7, 2, crowded, [0, 0]), [0, 1])

    def test_where_the_corners_come_last(self):
        self.assertEqual(in_body(6, 2, [1, 1, 1, 0] + oracle.SQUARE, [1, 0]), [1, 0b001100])
        self.assertEqual(in_body(6, 2, [1, 1, 1, 0] + oracle.SQUARE, [1, 1]), [2, 0b111100])


class NotInTheBody(unittest.TestCase):
    def test_beside_it(self):
        for x in (-1, 6, 7):
            self.assertEqual(in_body(2, 1, [0, 5], [x]), [-1])
        for x in ([-1, 0], [3, 1], [1, -1], [1, 3], [3, 3], [-1, -1]):
            self.assertEqual(in_body(4, 2, oracle.SQUARE, x), [-1])
        for x in ([3, 1, 1], [1, -1, 1], [1, 1, 3], [3, 0, 0], [3, 3, 3]):
            self.assertEqual(in_body(8, 3, CUBE, x), [-1])
        for x in ([1, 1, 1, 2], [-1, 1, 1, 1], [5, 0, 0, 0], [4, 1, 0, 0]):
            self.assertEqual(in_body(5, 4, SIMPLEX4, x), [-1])

    def test_in_the_box_round_it_but_beyond_a_side(self):
        self.assertEqual(in_body(3, 2, [0, 0, 2, 0, 0, 2], [2, 2]), [-1])
        self.assertEqual(in_body(6, 3, oracle.OCTAHEDRON, [1, 1, 0]), [-1])
        self.assertEqual(in_body(8, 4, oracle.CROSS4, [1, 0, 0, 1]), [-1])

    def test_on_an_edge_s_line_but_beyond_it(self):
        self.assertEqual(in_body(4, 2, oracle.SQUARE, [3, 0]), [-1])
        self.assertEqual(in_body(4, 2, oracle.SQUARE, [-1, 2]), [-1])


class Weights(unittest.TestCase):
    def test_unequal_ones(self):
        # 1, 1 is a mean of the three corners with the weights 12, 5, 4, and with no others but their like.
        triangle = [0, 0, 5, 1, -1, 4]
        self.assertEqual(in_body(3, 2, triangle, [1, 1]), [2, 0b111])
        self.assertEqual(in_body(3, 2, triangle, [2, 1]), [2, 0b111])
        self.assertEqual(in_body(3, 2, triangle, [3, 3]), [-1])
        self.assertEqual(in_body(2, 1, [0, 7], [3]), [1, 0b11])
        self.assertEqual(in_body(2, 2, [0, 0, 21, 14], [3, 2]), [1, 0b11])
        self.assertEqual(in_body(2, 3, [0, 0, 0, 30, 20, -10], [27, 18, -9]), [1, 0b11])

    def test_large_ones(self):
        self.assertEqual(in_body(2, 1, [-32768, 32767], [0]), [1, 0b11])
        self.assertEqual(in_body(2, 1, [-32768, 32767], [32766]), [1, 0b11])
        # Next to the edge from corner 0 to corner 1, on either side of it.
        wide = [-32768, -32768, 32767, 32766, -32768, 32767]
        self.assertEqual(in_body(3, 2, wide, [0, 0]), [2, 0b111])
        self.assertEqual(in_body(3, 2, wide, [0, -1]), [-1])
        self.assertEqual(in_body(3, 2, wide, [32766, 32766]), [2, 0b111])
        self.assertEqual(in_body(3, 2, wide, [32766, 32765]), [-1])
        self.assertEqual(in_body(3, 2, wide, [32766, 32767]), [-1])

    def test_large_ones_in_four_dimensions(self):
        wide = [-32768] * 4 + [32767 if a == b else -32768 for a in range(4) for b in range(4)]
        inner = [-32767, -32767, -32767, -32767]
        self.assertEqual(in_body(5, 4, wide, inner), [4, 31])
        self.assertEqual(in_body(5, 4, wide, [-32768, -32767, -32767, -32767]), [3, 0b11101])
        self.assertEqual(in_body(5, 4, wide, [32764, -32767, -32767, -32767]), [3, 0b11110])
        self.assertEqual(in_body(5, 4, wide, [32763, -32767, -32767, -32767]), [4, 31])
        self.assertEqual(in_body(5, 4, wide, [32765, -32767, -32767, -32767]), [-1])


class FewerDimensions(unittest.TestCase):
    def test_one_point(self):
        for d in range(1, 5):
            point = [-3, 0, 8, 1][:d]
            self.assertEqual(in_body(1, d, point, point), [0, 1])
            for axis in range(d):
                beside = [x + (a == axis) for a, x in enumerate(point)]
                self.assertEqual(in_body(1, d, point, beside), [-1])

    def test_points_all_equal(self):
        for n, d in ((12, 1), (12, 2), (9, 3), (9, 4)):
            self.assertEqual(in_body(n, d, [7] * (n * d), [7] * d), [0, 1])
            self.assertEqual(in_body(n, d, [7] * (n * d), [7] * (d - 1) + [6]), [-1])

    def test_beyond_the_body_s_own_line(self):
        for x, told in (([1, 2], [1, 0b11]), ([0, 1], [0, 0b10]), ([1, 1], [-1]), ([0, 0], [-1]), ([3, 4], [-1])):
            self.assertEqual(in_body(3, 2, [2, 3, 0, 1, 1, 2], x), told)
        segment = [0, 0, 0, 5, 0, 0, 0, 9]
        self.assertEqual(in_body(2, 4, segment, [0, 0, 0, 7]), [1, 0b11])
        self.assertEqual(in_body(2, 4, segment, [0, 0, 1, 7]), [-1])
        self.assertEqual(in_body(2, 4, segment, [1, 0, 0, 5]), [-1])
        self.assertEqual(in_body(2, 4, segment, [0, 0, 0, 10]), [-1])

    def test_beyond_the_body_s_own_plane(self):
        tilted = oracle.flat([(a, b, a - b) for a, b in oracle.points_of(4, 2, oracle.SQUARE)])
        self.assertEqual(in_body(4, 3, tilted, [1, 1, 0]), [2, 0b1111])
        self.assertEqual(in_body(4, 3, tilted, [2, 1, 1]), [1, 0b1010])
        self.assertEqual(in_body(4, 3, tilted, [1, 1, 1]), [-1])
        self.assertEqual(in_body(4, 3, tilted, [3, 1, 2]), [-1])

    def test_beyond_the_body_s_own_space(self):
        tilted = oracle.flat([(a, 9, b + c, a - c) for a, b, c in oracle.points_of(8, 3, CUBE)])
        self.assertEqual(in_body(8, 4, tilted, [1, 9, 2, 0]), [3, 255])
        self.assertEqual(in_body(8, 4, tilted, [1, 9, 1, 1]), [2, 0b1111])
        self.assertEqual(in_body(8, 4, tilted, [1, 8, 2, 0]), [-1])
        self.assertEqual(in_body(8, 4, tilted, [1, 9, 5, 0]), [-1])


class Extremes(unittest.TestCase):
    def test_x_at_both_ends(self):
        for d in range(1, 5):
            wide = [-32768] * d + [32767] * d
            for x in ([LEAST] * d, [MOST] * d, [LEAST] + [MOST] * (d - 1), [MOST] + [LEAST] * (d - 1)):
                self.assertEqual(in_body(2, d, wide, x), [-1])
                self.assertEqual(in_body(1, d, [0] * d, x), [-1])
        for x in ([LEAST, 1], [1, MOST], [LEAST, LEAST], [MOST, MOST]):
            self.assertEqual(in_body(4, 2, oracle.SQUARE, x), [-1])
        for x in ([LEAST, 0, 0, 0], [0, 0, 0, MOST], [MOST, LEAST, MOST, LEAST]):
            self.assertEqual(in_body(9, 4, oracle.CURVE4, x), [-1])

    def test_coordinates_at_both_ends(self):
        stretched = [32767 if x else -32768 for x in oracle.CUBE]
        self.assertEqual(in_body(8, 3, stretched, [0, 0, 0]), [3, 255])
        self.assertEqual(in_body(8, 3, stretched, [0, 0, -32768]), [2, 0b1111])
        self.assertEqual(in_body(8, 3, stretched, [0, 0, -32769]), [-1])
        self.assertEqual(in_body(8, 3, stretched, [32767, 32767, 0]), [1, 0b10001000])
        self.assertEqual(in_body(8, 3, stretched, [32768, 32767, 0]), [-1])
        self.assertEqual(in_body(8, 3, stretched, [-32768, 32767, -32768]), [0, 0b100])

    def test_as_many_points_as_are_asked_of(self):
        self.assertEqual(in_body(12, 1, list(range(0, 24, 2)), [7]), [1, 0b100000000001])
        self.assertEqual(in_body(12, 1, list(range(0, 24, 2)), [22]), [0, 0b100000000000])
        self.assertEqual(in_body(12, 2, oracle.TWELVE_GON, [0, 1]), [2, 4095])
        self.assertEqual(in_body(12, 2, oracle.TWELVE_GON, [0, -1]), [-1])
        self.assertEqual(in_body(12, 2, oracle.doubled(oracle.TWELVE_GON), [-11, 61]), [1, 0b11])
        self.assertEqual(in_body(12, 2, oracle.doubled(oracle.TWELVE_GON), [-11, 60]), [-1])
        self.assertEqual(in_body(9, 3, CUBE + [4, 4, 4], [3, 3, 3]), [3, 0b101111111])
        # Midway between corners 0 and 4, which share an edge although they look far apart.
        self.assertEqual(in_body(9, 4, oracle.CURVE4, [-2, 8, -32, 128]), [1, 0b000010001])
        self.assertEqual(in_body(9, 4, oracle.CURVE4, [-2, 8, -32, 127]), [-1])


class AgainstTheSecondWay(unittest.TestCase):
    def check(self, samples):
        told = {}
        for n, d, p, x in samples:
            with self.subTest(n=n, d=d, p=p, x=x):
                answer = in_body(n, d, p, x)
                self.assertEqual(answer, oracle.in_body(n, d, p, x))
            told[answer[0]] = True
        return told

    def test_means_of_the_points(self):
        told = self.check(oracle.sample_means(31, 90, 1))
        told.update(self.check(oracle.sample_means(32, 90, 3)))
        self.assertEqual(sorted(told), [0, 1, 2, 3, 4])

    def test_means_of_points_of_every_size(self):
        self.check(oracle.sample_means(33, 60, 5460))

    def test_places_anywhere_near(self):
        for reach in (1, 3, 50, 32767):
            numbers = oracle.Numbers(34 + reach)
            told = self.check((n, d, p, [numbers.pick(-reach - 1, reach) for axis in range(d)])
                              for n, d, p in oracle.sample_bodies(35 + reach, 40, reach))
            self.assertIn(-1, told)

    def test_twelve_points(self):
        numbers = oracle.Numbers(36)
        for d, reach in ((1, 5), (2, 2), (2, 6), (2, 32767)):
            p = [numbers.pick(-reach - 1, reach) for i in range(12 * d)]
            self.check([(12, d, p, [numbers.pick(-reach - 1, reach) for axis in range(d)]) for turn in range(12)])


if __name__ == "__main__":
    unittest.main()
