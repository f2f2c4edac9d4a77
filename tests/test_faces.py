"""Promise 2: faces answers how many faces of dimension k there are, then these, the least first."""

import unittest

from bodyfaces.bodies import faces
from tests import oracle

ALL_K = range(-1, 5)


class FacesCase(unittest.TestCase):
    def check_counts(self, n, d, p, counts):
        self.assertEqual([faces(n, d, k, p)[0] for k in ALL_K], counts)

    def check_all(self, n, d, p, answers):
        self.assertEqual([faces(n, d, k, p) for k in ALL_K], answers)


class OrdinaryBodies(FacesCase):
    def test_on_a_line(self):
        self.check_all(3, 1, [4, 9, -1], [[1, 0], [2, 2, 4], [1, 6], [0], [0], [0]])

    def test_in_the_plane(self):
        self.check_all(4, 2, oracle.SQUARE,
                       [[1, 0], [4, 1, 2, 4, 8], [4, 0b0011, 0b0101, 0b1010, 0b1100], [1, 15], [0], [0]])

    def test_in_space(self):
        self.check_all(8, 3, oracle.CUBE,
                       [[1, 0], [8, 1, 2, 4, 8, 16, 32, 64, 128],
                        [12, 3, 5, 10, 12, 17, 34, 48, 68, 80, 136, 160, 192],
                        [6, 15, 51, 85, 170, 204, 240], [1, 255], [0]])
        self.check_all(5, 3, oracle.PYRAMID,
                       [[1, 0], [5, 1, 2, 4, 8, 16], [8, 3, 5, 10, 12, 17, 18, 20, 24],
                        [5, 15, 19, 21, 26, 28], [1, 31], [0]])
        self.check_counts(6, 3, oracle.OCTAHEDRON, [1, 6, 12, 8, 1, 0])

    def test_of_four_dimensions(self):
        subsets = [[s for s in range(32) if bin(s).count("1") == k + 1] for k in ALL_K]
        self.check_all(5, 4, oracle.SIMPLEX4, [[len(s)] + s for s in subsets])
        self.check_counts(8, 4, oracle.CROSS4, [1, 8, 24, 32, 16, 1])


class EachDimension(FacesCase):
    bodies = ((1, 1, [6]), (2, 1, [6, -6]), (4, 2, oracle.SQUARE), (8, 3, oracle.CUBE), (5, 4, oracle.SIMPLEX4))

    def test_of_minus_one_there_is_the_face_of_no_corners(self):
        for n, d, p in self.bodies:
            self.assertEqual(faces(n, d, -1, p), [1, 0])

    def test_of_the_body_s_own_there_is_the_face_of_all_corners(self):
        for own, (n, d, p) in enumerate(self.bodies):
            self.assertEqual(faces(n, d, own, p), [1, 2 ** n - 1])

    def test_above_the_body_s_own_there_is_none(self):
        for own, (n, d, p) in enumerate(self.bodies):
            for k in range(own + 1, 5):
                self.assertEqual(faces(n, d, k, p), [0])

    def test_a_k_above_d_is_no_refusal(self):
        self.assertEqual(faces(2, 1, 4, [0, 1]), [0])


class OneAndEqualPoints(FacesCase):
    def test_one_point(self):
        for d in range(1, 5):
            self.check_all(1, d, [-3, 0, 8, 1][:d], [[1, 0], [1, 1], [0], [0], [0], [0]])

    def test_points_all_equal(self):
        for n, d in ((12, 1), (12, 2), (9, 3), (9, 4)):
            self.check_all(n, d, [7] * (n * d), [[1, 0], [1, 1], [0], [0], [0], [0]])

    def test_only_the_first_of_equal_points_is_in_a_face(self):
        self.check_all(6, 2, [1, 1, 0, 0, 4, 0, 0, 4, 0, 0, 4, 0],
                       [[1, 0], [3, 2, 4, 8], [3, 6, 10, 12], [1, 14], [0], [0]])


class PointsThatAreNoCorners(FacesCase):
    def test_they_are_in_no_face(self):
        # Within the body, within an edge, then the square.
        self.check_all(6, 2, [1, 1, 1, 0] + oracle.SQUARE,
                       [[1, 0], [4, 4, 8, 16, 32], [4, 0b001100, 0b010100, 0b101000, 0b110000],
                        [1, 0b111100], [0], [0]])

    def test_within_a_side(self):
        doubled = [2 * x for x in oracle.CUBE]
        self.assertEqual(faces(9, 3, 2, doubled + [1, 1, 0]), [6, 15, 51, 85, 170, 204, 240])
        self.assertEqual(faces(9, 3, 3, doubled + [1, 1, 0]), [1, 255])
        larger = [4 * x for x in oracle.SIMPLEX4]
        self.assertEqual(faces(6, 4, 3, larger + [1, 1, 1, 1]), [5, 15, 23, 27, 29, 30])


class FewerDimensions(FacesCase):
    def test_a_segment_beyond_the_line(self):
        self.check_all(3, 4, [0, 1, 0, 5, 0, 3, 0, 9, 0, 2, 0, 7], [[1, 0], [2, 1, 2], [1, 3], [0], [0], [0]])

    def test_a_square_in_space(self):
        tilted = oracle.flat([(a, b, a - b) for a, b in oracle.points_of(4, 2, oracle.SQUARE)])
        self.check_all(4, 3, tilted, [[1, 0], [4, 1, 2, 4, 8], [4, 3, 5, 10, 12], [1, 15], [0], [0]])

    def test_a_cube_in_four_dimensions(self):
        tilted = oracle.flat([(a, 9, b + c, a - c) for a, b, c in oracle.points_of(8, 3, oracle.CUBE)])
        self.check_counts(8, 4, tilted, [1, 8, 12, 6, 1, 0])
        self.assertEqual(faces(8, 4, 2, tilted), [6, 15, 51, 85, 170, 204, 240])


class Extremes(FacesCase):
    def test_coordinates_at_both_ends(self):
        self.check_all(2, 1, [32767, -32768], [[1, 0], [2, 1, 2], [1, 3], [0], [0], [0]])
        stretched = [32767 if x else -32768 for x in oracle.CUBE]
        self.assertEqual(faces(8, 3, 2, stretched), [6, 15, 51, 85, 170, 204, 240])
        stretched = [32767 if x else -32768 for x in oracle.TRIANGLES4]
        self.check_counts(9, 4, stretched, [1, 9, 18, 15, 6, 1])

    def test_a_side_that_is_bent_by_a_hair(self):
        flat_side = [32767 if x else -32768 for x in oracle.CUBE]
        bent = list(flat_side)
        bent[23] = 32766
        self.check_counts(8, 3, bent, [1, 8, 13, 7, 1, 0])

    def test_as_many_points_as_are_asked_of(self):
        self.check_counts(12, 1, list(range(12)), [1, 2, 1, 0, 0, 0])
        edges = sorted([3 << i for i in range(11)] + [2 ** 11 + 1])
        self.assertEqual(faces(12, 2, 1, oracle.TWELVE_GON), [12] + edges)
        self.assertEqual(faces(12, 2, 2, oracle.TWELVE_GON), [1, 4095])
        self.check_counts(9, 3, oracle.CUBE + [2, 2, 2], [1, 8, 15, 9, 1, 0])
        self.check_counts(9, 4, oracle.CURVE4, [1, 9, 36, 54, 27, 1])
        self.check_counts(9, 4, oracle.TRIANGLES4, [1, 9, 18, 15, 6, 1])


class Order(FacesCase):
    def test_the_least_set_is_first(self):
        for n, d, p in oracle.sample_bodies(5, 40, 3):
            for k in ALL_K:
                sets = faces(n, d, k, p)[1:]
                self.assertEqual(sets, sorted(set(sets)))

    def test_the_order_is_by_number_and_not_by_place(self):
        self.assertEqual(faces(4, 2, 1, [0, 0, 2, 2, 2, 0, 0, 2]), [4, 5, 6, 9, 10])


class AgainstTheSecondWay(FacesCase):
    def check(self, bodies):
        for n, d, p in bodies:
            with self.subTest(n=n, d=d, p=p):
                self.assertEqual({k: faces(n, d, k, p) for k in ALL_K}, oracle.all_faces(n, d, p))

    def test_small_coordinates(self):
        self.check(oracle.sample_bodies(6, 60, 1))
        self.check(oracle.sample_bodies(7, 60, 4))

    def test_coordinates_of_every_size(self):
        self.check(oracle.sample_bodies(8, 40, 32767))

    def test_twelve_points(self):
        numbers = oracle.Numbers(9)
        for d, reach in ((1, 5), (2, 2), (2, 32767)):
            self.check([(12, d, [numbers.pick(-reach - 1, reach) for i in range(12 * d)])])


if __name__ == "__main__":
    unittest.main()
