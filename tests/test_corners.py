"""Promise 1: corners answers the body's dimension, and its corners."""

import unittest

from bodyfaces.bodies import corners
from tests import oracle


class OrdinaryBodies(unittest.TestCase):
    def test_on_a_line(self):
        self.assertEqual(corners(2, 1, [3, 7]), [1, 0b11])
        self.assertEqual(corners(4, 1, [3, 7, -2, 5]), [1, 0b0110])

    def test_in_the_plane(self):
        self.assertEqual(corners(3, 2, [0, 0, 4, 0, 0, 4]), [2, 0b111])
        self.assertEqual(corners(4, 2, oracle.SQUARE), [2, 0b1111])

    def test_in_space(self):
        self.assertEqual(corners(4, 3, oracle.TETRAHEDRON), [3, 0b1111])
        self.assertEqual(corners(8, 3, oracle.CUBE), [3, 255])
        self.assertEqual(corners(6, 3, oracle.OCTAHEDRON), [3, 63])
        self.assertEqual(corners(5, 3, oracle.PYRAMID), [3, 31])

    def test_of_four_dimensions(self):
        self.assertEqual(corners(5, 4, oracle.SIMPLEX4), [4, 31])
        self.assertEqual(corners(8, 4, oracle.CROSS4), [4, 255])


class OneAndEqualPoints(unittest.TestCase):
    def test_one_point_is_a_corner(self):
        for d in range(1, 5):
            self.assertEqual(corners(1, d, [0] * d), [0, 1])
            self.assertEqual(corners(1, d, [-7, 5, 0, 9][:d]), [0, 1])

    def test_points_all_equal_have_the_first_as_corner(self):
        self.assertEqual(corners(12, 1, [5] * 12), [0, 1])
        self.assertEqual(corners(12, 2, [5, -6] * 12), [0, 1])
        self.assertEqual(corners(9, 3, [0, 0, 0] * 9), [0, 1])
        self.assertEqual(corners(9, 4, [1, 2, 3, 4] * 9), [0, 1])

    def test_of_equal_points_the_first_is_the_corner(self):
        self.assertEqual(corners(5, 1, [4, 9, 9, 4, 6]), [1, 0b00011])
        self.assertEqual(corners(6, 2, [1, 1, 0, 0, 4, 0, 0, 4, 0, 0, 4, 0]), [2, 0b001110])

    def test_equal_points_within_are_no_corners(self):
        self.assertEqual(corners(6, 2, [1, 1, 1, 1] + oracle.SQUARE), [2, 0b111100])


class PointsThatAreNoCorners(unittest.TestCase):
    def test_within_the_body(self):
        self.assertEqual(corners(5, 2, [1, 1] + oracle.SQUARE), [2, 0b11110])
        self.assertEqual(corners(7, 3, oracle.OCTAHEDRON + [0, 0, 0]), [3, 63])
        self.assertEqual(corners(9, 4, oracle.CROSS4 + [0, 0, 0, 0]), [4, 255])

    def test_within_an_edge(self):
        self.assertEqual(corners(5, 2, [1, 0] + oracle.SQUARE), [2, 0b11110])
        doubled = [2 * x for x in oracle.CUBE]
        self.assertEqual(corners(9, 3, doubled + [1, 0, 0]), [3, 255])
        doubled = [2 * x for x in oracle.SIMPLEX4]
        self.assertEqual(corners(6, 4, doubled + [0, 1, 1, 0]), [4, 31])

    def test_within_a_side(self):
        doubled = [2 * x for x in oracle.CUBE]
        self.assertEqual(corners(9, 3, [1, 1, 0] + doubled), [3, 510])
        tripled = [4 * x for x in oracle.SIMPLEX4]
        self.assertEqual(corners(7, 4, tripled + [1, 1, 1, 1, 1, 1, 1, 0]), [4, 31])


class FewerDimensions(unittest.TestCase):
    def test_a_segment_in_each_space(self):
        self.assertEqual(corners(3, 2, [2, 3, 0, 1, 1, 2]), [1, 0b011])
        self.assertEqual(corners(3, 3, [2, 2, 7, 0, 0, 7, 1, 1, 7]), [1, 0b011])
        self.assertEqual(corners(3, 4, [0, 0, 0, 5, 0, 0, 0, 9, 0, 0, 0, 7]), [1, 0b011])

    def test_a_square_in_space_and_beyond(self):
        self.assertEqual(corners(5, 3, [0, 0, 0, 1, 0, 1, 0, 1, 1, 1, 1, 2, 0, 0, 0]), [2, 0b01111])
        tilted = oracle.flat([(0, 0, 5, 0), (2, 2, 5, 0), (0, 0, 5, 2), (2, 2, 5, 2), (1, 1, 5, 1)])
        self.assertEqual(corners(5, 4, tilted), [2, 0b01111])

    def test_a_cube_in_four_dimensions(self):
        points = oracle.points_of(8, 3, oracle.CUBE)
        tilted = oracle.flat([(a, b, a + b + c, c) for a, b, c in points])
        self.assertEqual(corners(8, 4, tilted), [3, 255])


class Extremes(unittest.TestCase):
    def test_coordinates_at_both_ends(self):
        self.assertEqual(corners(3, 1, [-32768, 0, 32767]), [1, 0b101])
        for d in (3, 4):
            whole = oracle.flat([[-32768 if i >> a & 1 else 32767 for a in range(d)] for i in range(8)])
            self.assertEqual(corners(8, d, whole), oracle.corners(8, d, whole))

    def test_a_point_that_is_off_an_edge_by_a_hair(self):
        # The three lie within 1 of a line of length 65535 and more: no rounding tells them apart.
        self.assertEqual(corners(3, 2, [-32768, -32768, 32767, 32767, 0, 0]), [1, 0b011])
        self.assertEqual(corners(3, 2, [-32768, -32768, 32767, 32766, 0, 0]), [2, 0b111])
        self.assertEqual(corners(4, 2, [-32768, -32768, 32767, 32767, 0, 1, -1, 0]), [2, 0b1111])
        self.assertEqual(corners(4, 2, [-32768, -32768, 32767, 32766, 0, 0, -1, -1]), [2, 0b0111])

    def test_as_many_points_as_are_asked_of(self):
        self.assertEqual(corners(12, 1, [3, -1, 4, 1, -5, 9, 2, 6, 5, 3, 5, 8]), [1, 2 ** 4 + 2 ** 5])
        self.assertEqual(corners(12, 2, oracle.TWELVE_GON), [2, 4095])
        grid = oracle.flat([(x, y) for x in range(4) for y in range(3)])
        self.assertEqual(corners(12, 2, grid), [2, 2 ** 0 + 2 ** 2 + 2 ** 9 + 2 ** 11])
        self.assertEqual(corners(9, 3, oracle.CUBE + [2, 2, 2]), [3, 0b101111111])
        self.assertEqual(corners(9, 4, oracle.CURVE4), [4, 511])
        self.assertEqual(corners(9, 4, oracle.TRIANGLES4), [4, 511])


class AgainstTheSecondWay(unittest.TestCase):
    def check(self, bodies):
        for n, d, p in bodies:
            with self.subTest(n=n, d=d, p=p):
                self.assertEqual(corners(n, d, p), oracle.corners(n, d, p))

    def test_small_coordinates(self):
        self.check(oracle.sample_bodies(1, 60, 1))
        self.check(oracle.sample_bodies(2, 60, 4))

    def test_coordinates_of_every_size(self):
        self.check(oracle.sample_bodies(3, 40, 32767))

    def test_twelve_points(self):
        numbers = oracle.Numbers(4)
        for d, reach in ((1, 5), (1, 32767), (2, 2), (2, 32767)):
            self.check([(12, d, [numbers.pick(-reach - 1, reach) for i in range(12 * d)])])


if __name__ == "__main__":
    unittest.main()
