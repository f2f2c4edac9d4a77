"""Promise 3: least answers the dimension of the least face round the points of s, then that face."""

import unittest

from bodyfaces.bodies import least
from tests import oracle

# The square's corners are 0 to 3; then a point within an edge, one within the body, and corner 0 once more.
CROWDED_SQUARE = oracle.SQUARE + [1, 0, 1, 1, 0, 0]
# The cube's corners are 0 to 7; then a point within the side 0, 1, 2, 3.
CROWDED_CUBE = oracle.doubled(oracle.CUBE) + [1, 1, 0]
BODIES = ((1, 1, [6]), (3, 1, [6, -6, 0]), (4, 2, oracle.SQUARE), (7, 2, CROWDED_SQUARE), (8, 3, oracle.CUBE),
          (9, 3, CROWDED_CUBE), (5, 4, oracle.SIMPLEX4), (8, 4, oracle.CROSS4))


class NoPoints(unittest.TestCase):
    def test_they_have_the_face_of_no_corners(self):
        for n, d, p in BODIES:
            self.assertEqual(least(n, d, 0, p), [-1, 0])

    def test_where_the_body_is_one_point(self):
        for n, d in ((1, 1), (12, 1), (12, 2), (9, 3), (9, 4)):
            self.assertEqual(least(n, d, 0, [4] * (n * d)), [-1, 0])


class Corners(unittest.TestCase):
    def test_one_corner(self):
        self.assertEqual(least(3, 1, 0b010, [6, -6, 0]), [0, 0b010])
        for n, d, p in ((4, 2, oracle.SQUARE), (8, 3, oracle.CUBE), (5, 4, oracle.SIMPLEX4), (8, 4, oracle.CROSS4)):
            for i in range(n):
                self.assertEqual(least(n, d, 1 << i, p), [0, 1 << i])

    def test_two_corners_of_an_edge(self):
        self.assertEqual(least(3, 1, 0b011, [6, -6, 0]), [1, 0b011])
        for edge in (0b0011, 0b0101, 0b1010, 0b1100):
            self.assertEqual(least(4, 2, edge, oracle.SQUARE), [1, edge])
        self.assertEqual(least(8, 3, 0b10100000, oracle.CUBE), [1, 0b10100000])
        self.assertEqual(least(5, 4, 0b10010, oracle.SIMPLEX4), [1, 0b10010])

    def test_two_corners_across_a_side_have_that_side(self):
        self.assertEqual(least(8, 3, 0b1001, oracle.CUBE), [2, 0b1111])
        self.assertEqual(least(8, 3, 0b10000010, oracle.CUBE), [2, 0b10101010])

    def test_three_corners(self):
        self.assertEqual(least(8, 3, 0b0111, oracle.CUBE), [2, 0b1111])
        self.assertEqual(least(8, 3, 0b10011, oracle.CUBE), [2, 0b110011])
        self.assertEqual(least(8, 3, 0b10110, oracle.CUBE), [3, 255])
        self.assertEqual(least(5, 4, 0b10101, oracle.SIMPLEX4), [2, 0b10101])

    def test_corners_that_share_no_face_but_the_body(self):
        self.assertEqual(least(4, 2, 0b1001, oracle.SQUARE), [2, 0b1111])
        self.assertEqual(least(4, 2, 0b0110, oracle.SQUARE), [2, 0b1111])
        self.assertEqual(least(8, 3, 0b10000001, oracle.CUBE), [3, 255])
        self.assertEqual(least(6, 3, 0b000011, oracle.OCTAHEDRON), [3, 63])
        self.assertEqual(least(8, 4, 0b00110000, oracle.CROSS4), [4, 255])

    def test_all_corners(self):
        self.assertEqual(least(8, 3, 255, oracle.CUBE), [3, 255])
        self.assertEqual(least(5, 4, 31, oracle.SIMPLEX4), [4, 31])


class PointsThatAreNoCorners(unittest.TestCase):
    def test_within_an_edge(self):
        self.assertEqual(least(7, 2, 1 << 4, CROWDED_SQUARE), [1, 0b0011])
        self.assertEqual(least(7, 2, 1 << 4 | 1, CROWDED_SQUARE), [1, 0b0011])
        self.assertEqual(least(7, 2, 1 << 4 | 4, CROWDED_SQUARE), [2, 0b1111])

    def test_within_a_side(self):
        self.assertEqual(least(9, 3, 1 << 8, CROWDED_CUBE), [2, 0b1111])
        self.assertEqual(least(9, 3, 1 << 8 | 2, CROWDED_CUBE), [2, 0b1111])
        self.assertEqual(least(9, 3, 1 << 8 | 16, CROWDED_CUBE), [3, 255])
        larger = [4 * x for x in oracle.SIMPLEX4] + [1, 1, 1, 1]
        self.assertEqual(least(6, 4, 1 << 5, larger), [3, 0b11110])

    def test_within_the_body(self):
        self.assertEqual(least(3, 1, 0b100, [6, -6, 0]), [1, 0b011])
        self.assertEqual(least(7, 2, 1 << 5, CROWDED_SQUARE), [2, 0b1111])
        self.assertEqual(least(7, 3, 1 << 6, oracle.OCTAHEDRON + [0, 0, 0]), [3, 63])
        self.assertEqual(least(9, 4, 1 << 8, oracle.CROSS4 + [0, 0, 0, 0]), [4, 255])

    def test_equal_to_a_corner_before(self):
        self.assertEqual(least(7, 2, 1 << 6, CROWDED_SQUARE), [0, 1])
        self.assertEqual(least(7, 2, 1 << 6 | 1, CROWDED_SQUARE), [0, 1])
        self.assertEqual(least(7, 2, 1 << 6 | 2, CROWDED_SQUARE), [1, 0b0011])

    def test_equal_to_one_another_within(self):
        twice = oracle.SQUARE + [1, 2, 1, 2, 1, 1, 1, 1]
        for s in (0b00010000, 0b00100000, 0b00110000):
            self.assertEqual(least(8, 2, s, twice), [1, 0b1100])
        for s in (0b01000000, 0b10000000, 0b11000000):
            self.assertEqual(least(8, 2, s, twice), [2, 0b1111])

    def test_all_equal(self):
        for n, d in ((12, 1), (12, 2), (9, 3), (9, 4)):
            for s in (1, 2, 1 << n - 1, (1 << n) - 1):
                self.assertEqual(least(n, d, s, [-8] * (n * d)), [0, 1])


class OtherPointsInS(unittest.TestCase):
    def test_refused(self):
        for n, d, p in BODIES:
            for s in (1 << n, 1 << n | 1, (1 << n + 1) - 1, 1 << 12, 1 << 31, 4294967295, 4294967295 - ((1 << n) - 1)):
                self.assertEqual(least(n, d, s, p), [-2])

    def test_where_there_are_twelve(self):
        for s in (4096, 8191, 1 << 31, 4294967295):
            self.assertEqual(least(12, 1, s, list(range(12))), [-2])
            self.assertEqual(least(12, 2, s, oracle.TWELVE_GON), [-2])

    def test_the_last_point_is_not_refused(self):
        for n, d, p in BODIES:
            self.assertNotEqual(least(n, d, 1 << n - 1, p), [-2])
            self.assertNotEqual(least(n, d, (1 << n) - 1, p), [-2])


class FewerDimensions(unittest.TestCase):
    def test_one_point(self):
        for d in range(1, 5):
            self.assertEqual(least(1, d, 1, [-3, 0, 8, 1][:d]), [0, 1])

    def test_a_segment_beyond_the_line(self):
        segment = [0, 1, 0, 5, 0, 3, 0, 9, 0, 2, 0, 7]
        self.assertEqual([least(3, 4, s, segment) for s in range(8)],
                         [[-1, 0], [0, 1], [0, 2], [1, 3], [1, 3], [1, 3], [1, 3], [1, 3]])

    def test_a_square_in_space(self):
        tilted = oracle.flat([(a, b, a - b) for a, b in oracle.points_of(4, 2, oracle.SQUARE)])
        self.assertEqual(least(4, 3, 0b0101, tilted), [1, 0b0101])
        self.assertEqual(least(4, 3, 0b1001, tilted), [2, 0b1111])


class Extremes(unittest.TestCase):
    def test_coordinates_at_both_ends(self):
        self.assertEqual(least(3, 1, 0b010, [-32768, 0, 32767]), [1, 0b101])
        stretched = [32767 if x else -32768 for x in oracle.CUBE]
        self.assertEqual(least(8, 3, 0b1001, stretched), [2, 0b1111])
        stretched = [32767 if x else -32768 for x in oracle.TRIANGLES4]
        self.assertEqual(least(9, 4, 0b000010001, stretched), [2, 0b000011011])

    def test_an_edge_that_is_missed_by_a_hair(self):
        self.assertEqual(least(4, 2, 0b0100, [-32768, -32768, 32767, 32767, 0, 0, -1, 0]), [1, 0b0011])
        self.assertEqual(least(4, 2, 0b1000, [-32768, -32768, 32767, 32766, 0, 32767, -1, 0]), [2, 0b0111])

    def test_as_many_points_as_are_asked_of(self):
        self.assertEqual(least(12, 1, 0b000001111110, list(range(12))), [1, 0b100000000001])
        self.assertEqual(least(12, 2, 0b100000000001, oracle.TWELVE_GON), [1, 0b100000000001])
        self.assertEqual(least(12, 2, 0b000000000101, oracle.TWELVE_GON), [2, 4095])
        self.assertEqual(least(9, 4, 0b000010001, oracle.CURVE4), [1, 0b000010001])
        self.assertEqual(least(9, 4, 0b001010100, oracle.CURVE4), [4, 511])
        self.assertEqual(least(9, 4, 0b000010001, oracle.TRIANGLES4), [2, 0b000011011])


class AgainstTheSecondWay(unittest.TestCase):
    def check(self, seed, bodies):
        numbers = oracle.Numbers(seed)
        for n, d, p in bodies:
            for s in [1 << i for i in range(n)] + [numbers.pick(0, 2 ** n - 1) for i in range(6)]:
                with self.subTest(n=n, d=d, s=s, p=p):
                    self.assertEqual(least(n, d, s, p), oracle.least(n, d, s, p))

    def test_small_coordinates(self):
        self.check(21, oracle.sample_bodies(21, 60, 1))
        self.check(22, oracle.sample_bodies(22, 60, 4))

    def test_coordinates_of_every_size(self):
        self.check(23, oracle.sample_bodies(23, 40, 32767))

    def test_twelve_points(self):
        numbers = oracle.Numbers(24)
        for d, reach in ((1, 5), (2, 2), (2, 32767)):
            self.check(25, [(12, d, [numbers.pick(-reach - 1, reach) for i in range(12 * d)])])


if __name__ == "__main__":
    unittest.main()
