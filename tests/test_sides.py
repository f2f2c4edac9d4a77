"""Promise 7: sides answers how many sides there are."""

import unittest

from bodyfaces.bodies import corners, faces, sides
from tests import oracle


class OrdinaryBodies(unittest.TestCase):
    def test_on_a_line(self):
        self.assertEqual(sides(2, 1, [3, 7]), [2])
        self.assertEqual(sides(5, 1, [3, 7, 4, 7, 5]), [2])

    def test_of_a_polygon(self):
        self.assertEqual(sides(3, 2, [0, 0, 4, 0, 0, 4]), [3])
        self.assertEqual(sides(4, 2, oracle.SQUARE), [4])
        for n in range(3, 13):
            self.assertEqual(sides(n, 2, oracle.TWELVE_GON[:2 * n]), [n])

    def test_in_space(self):
        self.assertEqual(sides(4, 3, oracle.TETRAHEDRON), [4])
        self.assertEqual(sides(5, 3, oracle.PYRAMID), [5])
        self.assertEqual(sides(5, 3, oracle.BIPYRAMID), [6])
        self.assertEqual(sides(6, 3, oracle.PRISM), [5])
        self.assertEqual(sides(6, 3, oracle.OCTAHEDRON), [8])
        self.assertEqual(sides(8, 3, oracle.CUBE), [6])

    def test_of_four_dimensions(self):
        self.assertEqual(sides(5, 4, oracle.SIMPLEX4), [5])
        self.assertEqual(sides(8, 4, oracle.CROSS4), [16])
        self.assertEqual(sides(6, 4, oracle.flat([point + (0,) for point in oracle.points_of(5, 3, oracle.PYRAMID)])
                               + [0, 0, 0, 1]), [6])


class OneAndEqualPoints(unittest.TestCase):
    def test_one_point_has_the_face_of_no_corners(self):
        for d in range(1, 5):
            self.assertEqual(sides(1, d, [-3, 0, 8, 1][:d]), [1])
            self.assertEqual(sides(1, d, [0] * d), [1])

    def test_so_have_points_all_equal(self):
        for n, d in ((12, 1), (12, 2), (9, 3), (9, 4)):
            self.assertEqual(sides(n, d, [7] * (n * d)), [1])

    def test_points_that_are_no_corners_make_no_sides(self):
        self.assertEqual(sides(7, 2, [1, 1, 1, 0] + oracle.SQUARE + [0, 0]), [4])
        self.assertEqual(sides(9, 3, oracle.doubled(oracle.CUBE) + [1, 1, 0]), [6])
        self.assertEqual(sides(9, 4, oracle.CROSS4 + [0] * 4), [16])


class FewerDimensions(unittest.TestCase):
    def test_a_segment_has_two(self):
        self.assertEqual(sides(3, 2, [2, 3, 0, 1, 1, 2]), [2])
        self.assertEqual(sides(3, 3, [2, 2, 7, 0, 0, 7, 1, 1, 7]), [2])
        self.assertEqual(sides(3, 4, [0, 1, 0, 5, 0, 3, 0, 9, 0, 2, 0, 7]), [2])

    def test_a_square_has_its_edges(self):
        tilted = oracle.flat([(a, b, a - b) for a, b in oracle.points_of(4, 2, oracle.SQUARE)])
        self.assertEqual(sides(4, 3, tilted), [4])
        tilted = oracle.flat([(a, 5, b, a + b) for a, b in oracle.points_of(4, 2, oracle.SQUARE)])
        self.assertEqual(sides(4, 4, tilted), [4])

    def test_a_cube_in_four_dimensions(self):
        tilted = oracle.flat([(a, 9, b + c, a - c) for a, b, c in oracle.points_of(8, 3, oracle.CUBE)])
        self.assertEqual(sides(8, 4, tilted), [6])


class Extremes(unittest.TestCase):
    def test_coordinates_at_both_ends(self):
        self.assertEqual(sides(2, 1, [32767, -32768]), [2])
        stretched = [32767 if x else -32768 for x in oracle.CUBE]
        self.assertEqual(sides(8, 3, stretched), [6])
        self.assertEqual(sides(8, 3, stretched[:23] + [32766]), [7])
        self.assertEqual(sides(9, 4, [32767 if x else -32768 for x in oracle.TRIANGLES4]), [6])

    def test_as_many_points_as_are_asked_of(self):
        self.assertEqual(sides(12, 1, list(range(12))), [2])
        self.assertEqual(sides(12, 2, oracle.TWELVE_GON), [12])
        grid = oracle.flat([(x, y) for x in range(4) for y in range(3)])
        self.assertEqual(sides(12, 2, grid), [4])
        self.assertEqual(sides(9, 3, oracle.CUBE + [2, 2, 2]), [9])
        self.assertEqual(sides(9, 4, oracle.CURVE4), [27])
        self.assertEqual(sides(9, 4, oracle.OTHER4), [27])
        self.assertEqual(sides(9, 4, oracle.TRIANGLES4), [6])


class AgainstOtherWays(unittest.TestCase):
    def check(self, bodies):
        for n, d, p in bodies:
            with self.subTest(n=n, d=d, p=p):
                self.assertEqual(sides(n, d, p), oracle.sides(n, d, p))
                self.assertEqual(sides(n, d, p), faces(n, d, corners(n, d, p)[0] - 1, p)[:1])

    def test_small_coordinates(self):
        self.check(oracle.sample_bodies(61, 60, 1))
        self.check(oracle.sample_bodies(62, 60, 4))

    def test_coordinates_of_every_size(self):
        self.check(oracle.sample_bodies(63, 40, 32767))

    def test_twelve_points(self):
        numbers = oracle.Numbers(64)
        for d, reach in ((1, 5), (2, 2), (2, 32767)):
            self.check([(12, d, [numbers.pick(-reach - 1, reach) for i in range(12 * d)])])


if __name__ == "__main__":
    unittest.main()
