"""Promise 6: way answers the fewest edges on a way from corner i to corner j."""

import unittest

from bodyfaces.bodies import way
from tests import oracle

LEAST, MOST = -2147483648, 2147483647
# The square's corners are 2 to 5; 0 is within the body, 1 within an edge, 6 is equal to corner 2.
CROWDED_SQUARE = [1, 1, 1, 0] + oracle.SQUARE + [0, 0]
BODIES = ((2, 1, [6, -6]), (4, 2, oracle.SQUARE), (12, 2, oracle.TWELVE_GON), (8, 3, oracle.CUBE),
          (6, 3, oracle.OCTAHEDRON), (5, 4, oracle.SIMPLEX4), (9, 4, oracle.CURVE4))


class WayCase(unittest.TestCase):
    def check_from(self, n, d, p, i, told):
        self.assertEqual([way(n, d, i, j, p) for j in range(n)], [[edges] for edges in told])
        self.assertEqual([way(n, d, j, i, p) for j in range(n)], [[edges] for edges in told])


class Ways(WayCase):
    def test_to_itself(self):
        for n, d, p in BODIES:
            for i in range(n):
                self.assertEqual(way(n, d, i, i, p), [0])

    def test_on_a_line(self):
        self.check_from(2, 1, [6, -6], 0, [0, 1])
        self.assertEqual(way(4, 1, 0, 3, [1, 3, 2, 9]), [1])

    def test_in_the_plane(self):
        self.check_from(3, 2, [0, 0, 4, 0, 0, 4], 0, [0, 1, 1])
        self.check_from(4, 2, oracle.SQUARE, 0, [0, 1, 1, 2])
        self.check_from(4, 2, oracle.SQUARE, 1, [1, 0, 2, 1])
        self.check_from(12, 2, oracle.TWELVE_GON, 0, [0, 1, 2, 3, 4, 5, 6, 5, 4, 3, 2, 1])
        self.check_from(12, 2, oracle.TWELVE_GON, 7, [5, 6, 5, 4, 3, 2, 1, 0, 1, 2, 3, 4])

    def test_in_space(self):
        self.check_from(8, 3, oracle.CUBE, 0, [0, 1, 1, 2, 1, 2, 2, 3])
        self.check_from(8, 3, oracle.CUBE, 6, [2, 3, 1, 2, 1, 2, 0, 1])
        self.check_from(6, 3, oracle.OCTAHEDRON, 2, [1, 1, 0, 2, 1, 1])
        self.check_from(4, 3, oracle.TETRAHEDRON, 3, [1, 1, 1, 0])
        self.check_from(5, 3, oracle.PYRAMID, 1, [1, 0, 2, 1, 1])

    def test_of_four_dimensions(self):
        self.check_from(5, 4, oracle.SIMPLEX4, 2, [1, 1, 0, 1, 1])
        self.check_from(8, 4, oracle.CROSS4, 5, [1, 1, 1, 1, 2, 0, 1, 1])
        self.check_from(9, 4, oracle.TRIANGLES4, 0, [0, 1, 1, 1, 2, 2, 1, 2, 2])

    def test_over_many_edges_in_four_dimensions(self):
        # The prism over a tetrahedron: corner i and corner i + 4 stand above one another.
        prism = oracle.flat([point + (h,) for h in (0, 1) for point in oracle.points_of(4, 3, oracle.TETRAHEDRON)])
        self.check_from(8, 4, prism, 1, [1, 0, 1, 1, 2, 1, 2, 2])


class NearAndFar(WayCase):
    def test_near_corners_that_share_no_edge(self):
        # Corners 0 and 1 are 2 apart across a narrow kite, their neighbours 2 and 3 are 200 apart.
        self.check_from(4, 2, [0, 1, 0, -1, 100, 0, -100, 0], 0, [0, 2, 1, 1])
        # The two tips of a flat bipyramid are near one another, the four corners round them are far off.
        tips = [0, 0, 1, 0, 0, -1]
        self.check_from(6, 3, tips + [99, 0, 0, 0, 99, 0, -99, -99, 0, 0, -99, 0], 0, [0, 2, 1, 1, 1, 1])

    def test_far_corners_that_share_one(self):
        for i in range(9):
            self.check_from(9, 4, oracle.CURVE4, i, [int(i != j) for j in range(9)])

    def test_a_point_within_an_edge_does_not_break_it(self):
        self.assertEqual(way(7, 2, 2, 3, CROWDED_SQUARE), [1])
        self.assertEqual(way(7, 2, 2, 5, CROWDED_SQUARE), [2])
        self.assertEqual(way(4, 1, 0, 3, [0, 1, 2, 3]), [1])


class Refusals(WayCase):
    def check_refused(self, n, d, p, wrong, right):
        for i in wrong:
            for j in tuple(wrong) + tuple(right):
                self.assertEqual(way(n, d, i, j, p), [-2])
                self.assertEqual(way(n, d, j, i, p), [-2])

    def test_a_point_that_is_no_corner(self):
        self.check_refused(7, 2, CROWDED_SQUARE, (0, 1, 6), (2, 3, 4, 5))
        self.check_refused(9, 3, oracle.doubled(oracle.CUBE) + [1, 1, 2], (8,), range(8))
        self.check_refused(9, 4, oracle.CROSS4 + [0] * 4, (8,), range(8))

    def test_one_equal_to_a_point_before_it(self):
        self.check_refused(3, 1, [4, 9, 4], (2,), (0, 1))
        for n, d in ((12, 1), (12, 2), (9, 3), (9, 4)):
            self.check_refused(n, d, [5] * (n * d), range(1, n), (0,))

    def test_one_below_0_or_from_n_on(self):
        for n, d, p in BODIES:
            self.check_refused(n, d, p, (LEAST, -n, -2, -1, n, n + 1, 12, 31, 32, 64, 255, MOST), (0, n - 1))

    def test_where_the_body_is_refused(self):
        for n, d in ((0, 1), (13, 1), (-1, 2), (1, 0), (1, 5), (LEAST, MOST)):
            for i in (LEAST, -1, 0, 1, MOST):
                self.assertEqual(way(n, d, i, i, []), [-2])
                self.assertEqual(way(n, d, 0, i, []), [-2])


class FewerDimensions(WayCase):
    def test_one_point(self):
        for d in range(1, 5):
            self.assertEqual(way(1, d, 0, 0, [-3, 0, 8, 1][:d]), [0])

    def test_points_all_equal(self):
        for n, d in ((12, 1), (12, 2), (9, 3), (9, 4)):
            self.assertEqual(way(n, d, 0, 0, [5] * (n * d)), [0])

    def test_a_segment_beyond_the_line(self):
        self.assertEqual(way(3, 4, 0, 1, [0, 1, 0, 5, 0, 3, 0, 9, 0, 2, 0, 7]), [1])

    def test_a_square_in_space(self):
        tilted = oracle.flat([(a, b, a - b) for a, b in oracle.points_of(4, 2, oracle.SQUARE)])
        self.check_from(4, 3, tilted, 0, [0, 1, 1, 2])

    def test_a_cube_in_four_dimensions(self):
        tilted = oracle.flat([(a, 9, b + c, a - c) for a, b, c in oracle.points_of(8, 3, oracle.CUBE)])
        self.check_from(8, 4, tilted, 7, [3, 2, 2, 1, 2, 1, 1, 0])


class Extremes(WayCase):
    def test_coordinates_at_both_ends(self):
        stretched = [32767 if x else -32768 for x in oracle.CUBE]
        self.check_from(8, 3, stretched, 0, [0, 1, 1, 2, 1, 2, 2, 3])
        # One side is bent by a hair, and so there is an edge across it.
        bent = stretched[:23] + [32766]
        self.assertEqual(sum(way(8, 3, i, j, bent) == [1] for i in range(8) for j in range(i)), 13)

    def test_as_many_points_as_are_asked_of(self):
        self.assertEqual(way(12, 1, 4, 5, [3, -1, 4, 1, -5, 9, 2, 6, 5, 3, 5, 8]), [1])
        grid = oracle.flat([(x, y) for x in range(4) for y in range(3)])
        self.assertEqual(way(12, 2, 0, 11, grid), [2])
        # The cube with its corner 7 drawn out, so that it is near more of the others.
        self.assertEqual(way(9, 3, 0, 8, oracle.CUBE + [2, 2, 2]), [2])
        self.assertEqual(way(9, 3, 0, 7, oracle.CUBE + [2, 2, 2]), [-2])


class AgainstTheSecondWay(WayCase):
    def check(self, bodies):
        longest = 0
        for n, d, p in bodies:
            told = oracle.all_ways(n, d, p)
            for i in range(-1, n + 1):
                for j in range(-1, n + 1):
                    with self.subTest(n=n, d=d, i=i, j=j, p=p):
                        self.assertEqual(way(n, d, i, j, p), [told.get((i, j), -2)])
            longest = max([longest] + list(told.values()))
        return longest

    def test_small_coordinates(self):
        self.check(oracle.sample_bodies(51, 24, 1))
        self.assertGreater(self.check(oracle.sample_bodies(52, 24, 4)), 1)

    def test_coordinates_of_every_size(self):
        self.check(oracle.sample_bodies(53, 24, 32767))

    def test_twelve_points(self):
        numbers = oracle.Numbers(54)
        for d, reach in ((1, 5), (2, 2), (2, 32767)):
            self.check([(12, d, [numbers.pick(-reach - 1, reach) for i in range(12 * d)])])


if __name__ == "__main__":
    unittest.main()
