"""Promise 8: alike answers 1 and the least matching of the corners that keeps faces faces, or 0."""

import time
import unittest

from bodyfaces.bodies import alike, corners, faces, sides
from tests import oracle

LEAST, MOST = -2147483648, 2147483647
SQUARE_ROUND = oracle.flat([(0, 0), (2, 0), (2, 2), (0, 2)])
PENTAGON = oracle.TWELVE_GON[:10]
PENTAGON_PYRAMID = oracle.flat([(0, 0, 0), (2, 0, 0), (3, 2, 0), (1, 3, 0), (-1, 2, 0), (1, 1, 4)])
# Six corners, ten edges and six sides, like the pyramid over a pentagon, but two of the sides have four corners.
WEDGE = oracle.flat([(1, 2, 0), (2, 0, 0), (2, 0, 1), (1, 0, 1), (0, 0, 0), (2, 2, 1)])
CURVE3 = oracle.flat([(t, t ** 2, t ** 3) for t in range(-2, 4)])
BODIES = ((1, 1, [6]), (1, 4, [6, 5, 4, 3]), (2, 1, [6, -6]), (3, 2, [0, 0, 4, 0, 0, 4]), (4, 2, oracle.SQUARE),
          (5, 2, PENTAGON), (12, 2, oracle.TWELVE_GON), (4, 3, oracle.TETRAHEDRON), (5, 3, oracle.PYRAMID),
          (5, 3, oracle.BIPYRAMID), (6, 3, oracle.PRISM), (6, 3, PENTAGON_PYRAMID), (6, 3, WEDGE),
          (6, 3, oracle.OCTAHEDRON), (6, 3, CURVE3), (8, 3, oracle.CUBE), (5, 4, oracle.SIMPLEX4),
          (8, 4, oracle.CROSS4), (9, 4, oracle.TRIANGLES4), (9, 4, oracle.CURVE4), (9, 4, oracle.OTHER4))


def reordered(d, p, order):
    points = oracle.points_of(len(p) // d, d, p)
    return oracle.flat([points[i] for i in order])


class Alike(unittest.TestCase):
    def test_a_body_and_itself(self):
        for n, d, p in BODIES:
            self.assertEqual(alike(n, d, n, d, p, p), [1] + list(range(n)))

    def test_points_in_another_order(self):
        self.assertEqual(alike(2, 1, 2, 1, [6, -6], [-6, 6]), [1, 0, 1])
        self.assertEqual(alike(4, 2, 4, 2, oracle.SQUARE, SQUARE_ROUND), [1, 0, 1, 3, 2])
        self.assertEqual(alike(4, 2, 4, 2, SQUARE_ROUND, oracle.SQUARE), [1, 0, 1, 3, 2])
        # The pyramid's tip is its corner 4, and once its corner 1.
        tip_first = reordered(3, oracle.PYRAMID, [0, 4, 1, 2, 3])
        self.assertEqual(alike(5, 3, 5, 3, oracle.PYRAMID, tip_first), [1, 0, 2, 3, 4, 1])
        self.assertEqual(alike(5, 3, 5, 3, tip_first, oracle.PYRAMID), [1, 0, 4, 1, 2, 3])
        backwards = reordered(3, oracle.CUBE, range(7, -1, -1))
        self.assertEqual(alike(8, 3, 8, 3, oracle.CUBE, backwards), [1, 0, 1, 2, 3, 4, 5, 6, 7])

    def test_another_shape_with_the_same_faces(self):
        self.assertEqual(alike(2, 1, 2, 1, [6, -6], [100, 101]), [1, 0, 1])
        self.assertEqual(alike(4, 2, 4, 2, oracle.SQUARE, [0, 0, 9, 1, 1, 7, 5, 8]), [1, 0, 1, 2, 3])
        stump = oracle.flat([(0, 0, 0), (4, 0, 0), (0, 4, 0), (4, 4, 0), (1, 1, 2), (3, 1, 2), (1, 3, 2), (3, 3, 2)])
        self.assertEqual(alike(8, 3, 8, 3, oracle.CUBE, stump), [1, 0, 1, 2, 3, 4, 5, 6, 7])
        self.assertEqual(alike(8, 3, 8, 3, stump, oracle.CUBE), [1, 0, 1, 2, 3, 4, 5, 6, 7])
        longer_curve = oracle.flat([(t, t ** 2, t ** 3, t ** 4) for t in (-8, -7, -3, -1, 0, 1, 5, 6, 9)])
        self.assertEqual(alike(9, 4, 9, 4, oracle.CURVE4, longer_curve), [1, 0, 1, 2, 3, 4, 5, 6, 7, 8])

    def test_in_spaces_of_different_d(self):
        self.assertEqual(alike(1, 1, 1, 4, [6], [1, 2, 3, 4]), [1, 0])
        self.assertEqual(alike(2, 1, 2, 4, [6, -6], [1, 2, 3, 4, 4, 3, 2, 1]), [1, 0, 1])
        tilted = oracle.flat([(a, b, a - b) for a, b in oracle.points_of(4, 2, oracle.SQUARE)])
        self.assertEqual(alike(4, 2, 4, 3, oracle.SQUARE, tilted), [1, 0, 1, 2, 3])
        self.assertEqual(alike(4, 3, 4, 2, tilted, SQUARE_ROUND), [1, 0, 1, 3, 2])
        tilted = oracle.flat([(a, 9, b + c, a - c) for a, b, c in oracle.points_of(8, 3, oracle.CUBE)])
        self.assertEqual(alike(8, 3, 8, 4, oracle.CUBE, tilted), [1, 0, 1, 2, 3, 4, 5, 6, 7])

    def test_it_is_asked_of_corners_not_of_points(self):
        self.assertEqual(alike(1, 1, 12, 2, [6], [5, 5] * 12), [1, 0])
        self.assertEqual(alike(3, 1, 2, 1, [6, -6, 0], [1, 2]), [1, 0, 1, 255])


class NotAlike(unittest.TestCase):
    def check(self, first, second):
        n, d, p = first
        m, e, q = second
        self.assertEqual(alike(n, d, m, e, p, q), [0])
        self.assertEqual(alike(m, e, n, d, q, p), [0])

    def test_other_numbers_of_corners(self):
        self.check((1, 1, [6]), (2, 1, [6, -6]))
        self.check((3, 2, [0, 0, 4, 0, 0, 4]), (4, 2, oracle.SQUARE))
        self.check((5, 4, oracle.SIMPLEX4), (4, 3, oracle.TETRAHEDRON))
        self.check((12, 2, oracle.TWELVE_GON), (11, 2, oracle.TWELVE_GON[:22]))
        self.check((12, 2, oracle.TWELVE_GON), (9, 4, oracle.CURVE4))

    def test_as_many_points_but_fewer_corners(self):
        self.check((4, 2, oracle.SQUARE), (4, 2, [0, 0, 9, 0, 0, 9, 1, 1]))
        self.check((4, 2, oracle.SQUARE), (4, 2, [0, 0, 9, 0, 0, 9, 0, 0]))

    def test_as_many_corners_but_other_faces(self):
        self.check((4, 2, oracle.SQUARE), (4, 3, oracle.TETRAHEDRON))
        self.check((5, 3, oracle.PYRAMID), (5, 3, oracle.BIPYRAMID))
        self.check((6, 3, oracle.PRISM), (6, 3, oracle.OCTAHEDRON))
        self.check((8, 3, oracle.CUBE), (8, 4, oracle.CROSS4))
        self.check((8, 3, oracle.CUBE), (8, 2, oracle.TWELVE_GON[:16]))
        self.check((9, 4, oracle.CURVE4), (9, 4, oracle.TRIANGLES4))

    def test_as_many_corners_and_sides_but_matched_in_no_way(self):
        fives = ((5, 2, PENTAGON), (5, 3, oracle.PYRAMID), (5, 4, oracle.SIMPLEX4))
        for at, first in enumerate(fives):
            self.assertEqual(sides(*first), [5])
            for second in fives[:at]:
                self.check(first, second)
        self.check((6, 3, PENTAGON_PYRAMID), (6, 3, WEDGE))
        self.check((6, 3, oracle.OCTAHEDRON), (6, 3, CURVE3))
        self.check((9, 4, oracle.CURVE4), (9, 4, oracle.OTHER4))

    def test_those_have_as_many_faces_of_each_dimension(self):
        for first, second in (((6, 3, PENTAGON_PYRAMID), (6, 3, WEDGE)), ((6, 3, oracle.OCTAHEDRON), (6, 3, CURVE3)),
                              ((9, 4, oracle.CURVE4), (9, 4, oracle.OTHER4))):
            counts = [[faces(n, d, k, p)[0] for k in range(-1, 5)] for n, d, p in (first, second)]
            self.assertEqual(counts[0], counts[1])

    def test_bodies_all_different(self):
        for first in BODIES:
            for second in BODIES:
                if corners(*first)[0] != corners(*second)[0] or sides(*first) != sides(*second):
                    self.check(first, second)


class TheLeastWay(unittest.TestCase):
    def test_of_several_ways_the_least_is_told(self):
        # Each way round a polygon matches; the least takes corner 0 to corner 0 and its neighbour to the lesser one.
        star = reordered(2, PENTAGON, [0, 2, 4, 1, 3])
        self.assertEqual(alike(5, 2, 5, 2, PENTAGON, star), [1, 0, 2, 4, 1, 3])
        self.assertEqual(alike(5, 2, 5, 2, star, PENTAGON), [1, 0, 2, 4, 1, 3])
        self.assertEqual(alike(4, 2, 4, 2, SQUARE_ROUND, SQUARE_ROUND), [1, 0, 1, 2, 3])

    def test_any_order_of_a_body_with_every_symmetry(self):
        numbers = oracle.Numbers(71)
        for turn in range(6):
            order = numbers.shuffled(range(5))
            self.assertEqual(alike(5, 4, 5, 4, oracle.SIMPLEX4, reordered(4, oracle.SIMPLEX4, order)),
                             [1, 0, 1, 2, 3, 4])

    def test_round_a_polygon(self):
        # Corner i of the first is a neighbour of i - 1 and i + 1; of the second, of the next even and odd ones.
        order = [0, 1, 11, 2, 10, 3, 9, 4, 8, 5, 7, 6]
        mixed = reordered(2, oracle.TWELVE_GON, order)
        self.assertEqual(alike(12, 2, 12, 2, oracle.TWELVE_GON, mixed), [1, 0, 1, 3, 5, 7, 9, 11, 10, 8, 6, 4, 2])
        self.assertEqual(alike(12, 2, 12, 2, mixed, oracle.TWELVE_GON), [1] + order)

    def test_of_a_cube(self):
        mixed = reordered(3, oracle.CUBE, [7, 2, 4, 1, 0, 3, 5, 6])
        # The neighbours of corner 0 are 1, 2, 4 in the one, and 5, 6, 7 in the other.
        self.assertEqual(alike(8, 3, 8, 3, oracle.CUBE, mixed), [1, 0, 5, 6, 3, 7, 1, 2, 4])


class PointsThatAreNoCorners(unittest.TestCase):
    def test_of_the_first_body_have_no_match(self):
        crowded = [1, 1] + oracle.SQUARE + [0, 0, 1, 0]
        self.assertEqual(alike(7, 2, 4, 2, crowded, oracle.SQUARE), [1, 255, 0, 1, 2, 3, 255, 255])
        self.assertEqual(alike(7, 2, 4, 2, crowded, SQUARE_ROUND), [1, 255, 0, 1, 3, 2, 255, 255])

    def test_of_the_second_body_are_no_match(self):
        crowded = [1, 1] + oracle.SQUARE + [0, 0, 1, 0]
        self.assertEqual(alike(4, 2, 7, 2, oracle.SQUARE, crowded), [1, 1, 2, 3, 4])
        self.assertEqual(alike(7, 2, 7, 2, crowded, crowded), [1, 255, 1, 2, 3, 4, 255, 255])

    def test_within_a_side(self):
        crowded = [1, 1, 0] + oracle.doubled(oracle.CUBE)
        self.assertEqual(alike(9, 3, 8, 3, crowded, oracle.CUBE), [1, 255, 0, 1, 2, 3, 4, 5, 6, 7])
        self.assertEqual(alike(8, 3, 9, 3, oracle.CUBE, crowded), [1, 1, 2, 3, 4, 5, 6, 7, 8])

    def test_equal_to_a_point_before_them(self):
        self.assertEqual(alike(4, 1, 4, 1, [3, 3, 9, 9], [7, 1, 1, 7]), [1, 0, 255, 1, 255])
        for n, d in ((12, 1), (12, 2), (9, 3), (9, 4)):
            self.assertEqual(alike(n, d, 1, 1, [5] * (n * d), [0]), [1, 0] + [255] * (n - 1))
            self.assertEqual(alike(1, 1, n, d, [0], [5] * (n * d)), [1, 0])


class Refusals(unittest.TestCase):
    wrong = ((0, 2), (-1, 2), (13, 2), (LEAST, 1), (MOST, 4), (4, 0), (4, -1), (4, 5), (1, LEAST), (12, MOST),
             (0, 0), (13, 5))

    def test_the_first_body_alone(self):
        for n, d in self.wrong:
            self.assertEqual(alike(n, d, 4, 2, [], oracle.SQUARE), [-2])
            self.assertEqual(alike(n, d, 1, 1, [], [0]), [-2])

    def test_the_second_body_alone(self):
        for m, e in self.wrong:
            self.assertEqual(alike(4, 2, m, e, oracle.SQUARE, []), [-2])
            self.assertEqual(alike(1, 1, m, e, [0], []), [-2])

    def test_both(self):
        for n, d in self.wrong:
            for m, e in self.wrong:
                self.assertEqual(alike(n, d, m, e, [], []), [-2])


class InTime(unittest.TestCase):
    def check(self, n, d, p, q):
        started = time.process_time()
        answer = alike(n, d, n, d, p, q)
        self.assertLess(time.process_time() - started, 5)
        return answer

    def test_twelve_corners_in_the_plane(self):
        numbers = oracle.Numbers(72)
        for turn in range(20):
            # With every second corner first, no two of the first six share an edge.
            apart = numbers.shuffled(range(0, 12, 2)) + numbers.shuffled(range(1, 12, 2))
            for order in (apart, numbers.shuffled(range(12))):
                answer = self.check(12, 2, reordered(2, oracle.TWELVE_GON, order),
                                    reordered(2, oracle.TWELVE_GON, numbers.shuffled(range(12))))
                self.assertEqual(answer[:2], [1, 0])

    def test_nine_corners_in_four_dimensions(self):
        numbers = oracle.Numbers(73)
        bodies = (oracle.CURVE4, oracle.OTHER4, oracle.TRIANGLES4)
        for turn in range(4):
            for p in bodies:
                for q in bodies:
                    answer = self.check(9, 4, reordered(4, p, numbers.shuffled(range(9))),
                                        reordered(4, q, numbers.shuffled(range(9))))
                    self.assertEqual(answer[0], int(p == q))


class Extremes(unittest.TestCase):
    def test_coordinates_at_both_ends(self):
        stretched = [32767 if x else -32768 for x in oracle.CUBE]
        self.assertEqual(alike(8, 3, 8, 3, oracle.CUBE, stretched), [1, 0, 1, 2, 3, 4, 5, 6, 7])
        self.assertEqual(alike(8, 3, 8, 3, oracle.CUBE, stretched[:23] + [32766]), [0])


class AgainstTheSecondWay(unittest.TestCase):
    def check(self, n, d, m, e, p, q):
        with self.subTest(n=n, d=d, m=m, e=e, p=p, q=q):
            answer = alike(n, d, m, e, p, q)
            self.assertEqual(answer, oracle.alike(n, d, m, e, p, q))
            return answer[0]

    def test_a_body_and_the_same_in_another_order_and_shape(self):
        numbers = oracle.Numbers(74)
        for n, d, p in list(oracle.sample_bodies(75, 40, 2)) + list(BODIES):
            points = numbers.shuffled(oracle.points_of(n, d, p))
            if d > 1:
                points = [(point[0] + 3 * point[1], point[1] - 7) + point[2:] for point in points]
            self.assertEqual(self.check(n, d, n, d, p, oracle.flat(points)), 1)

    def test_bodies_one_against_another(self):
        told = []
        for d in range(1, 5):
            few = [(n, p) for n, other, p in oracle.sample_bodies(76 + d, 60, 1) if other == d][:9]
            told += [self.check(n, d, m, d, p, q) for n, p in few for m, q in few]
        self.assertIn(0, told)
        self.assertIn(1, told)

    def test_in_spaces_of_different_d(self):
        few = list(oracle.sample_bodies(81, 14, 1))
        for n, d, p in few:
            for m, e, q in few:
                self.check(n, d, m, e, p, q)


if __name__ == "__main__":
    unittest.main()
