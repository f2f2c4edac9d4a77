"""A second, slow way to the same answers, and bodies to ask about.

It shares nothing with the program. A set of points is one that some plane touches just if, for every least
dependence among the points (whole numbers that sum up to 0 and make the points' sum 0), the set holds either
all points of both signs or not all points of either sign: else a mean of its own points would be a mean of
others too. That is Farkas' lemma, told by least dependences.
"""

from fractions import Fraction
from functools import lru_cache
from itertools import combinations


def points_of(n, d, p):
    return tuple(tuple(p[i * d:(i + 1) * d]) for i in range(n))


def bits(indexes):
    return sum(2 ** i for i in set(indexes))


def dependences(points):
    """A basis of the dependences of these points: numbers that sum up to 0 and make the points' sum 0."""
    size = len(points)
    if size == 0:
        return []
    rows = [[Fraction(1)] * size]
    rows += [[Fraction(point[axis]) for point in points] for axis in range(len(points[0]))]
    leads = []
    for column in range(size):
        top = len(leads)
        at = next((r for r in range(top, len(rows)) if rows[r][column]), None)
        if at is None:
            continue
        rows[top], rows[at] = rows[at], rows[top]
        rows[top] = [x / rows[top][column] for x in rows[top]]
        for r in range(len(rows)):
            if r != top and rows[r][column]:
                rows[r] = [x - rows[r][column] * y for x, y in zip(rows[r], rows[top])]
        leads.append(column)
    found = []
    for free in range(size):
        if free not in leads:
            numbers = [Fraction(0)] * size
            numbers[free] = Fraction(1)
            for r, lead in enumerate(leads):
                numbers[lead] = -rows[r][free]
            found.append(numbers)
    return found


def dimension(points, chosen):
    members = [point for i, point in enumerate(points) if chosen >> i & 1]
    return len(members) - len(dependences(members)) - 1


def least_dependences(points):
    """The pairs of sets (points above 0, points below 0) of the dependences that need all their points."""
    found = set()
    for size in range(2, len(points[0]) + 3):
        for indexes in combinations(range(len(points)), size):
            basis = dependences([points[i] for i in indexes])
            if len(basis) == 1 and all(basis[0]):
                above = bits(i for i, x in zip(indexes, basis[0]) if x > 0)
                below = bits(i for i, x in zip(indexes, basis[0]) if x < 0)
                found.add((above, below))
                found.add((below, above))
    return sorted(found)


@lru_cache(maxsize=1)
def touched_sets(points):
    pairs = least_dependences(points)
    return [s for s in range(2 ** len(points))
            if all(above & ~s or not below & ~s for above, below in pairs)]


def corner_set(points, touched):
    return bits(i for i, point in enumerate(points)
                if point not in points[:i]
                and bits(j for j, other in enumerate(points) if other == point) in touched)


def corners(n, d, p):
    points = points_of(n, d, p)
    found = corner_set(points, touched_sets(points))
    return [dimension(points, found), found]


def all_faces(n, d, p):
    """For each k from -1 to 4, what faces is to answer."""
    points = points_of(n, d, p)
    touched = touched_sets(points)
    inside = corner_set(points, touched)
    found = {k: [] for k in range(-1, 5)}
    for face in sorted({s & inside for s in touched}):
        found[dimension(points, face)].append(face)
    return {k: [len(sets)] + sets for k, sets in found.items()}


def least_face(points, s):
    touched = touched_sets(points)
    face = corner_set(points, touched)
    for other in touched:
        if not s & ~other:
            face &= other
    return [dimension(points, face), face]


def least(n, d, s, p):
    return least_face(points_of(n, d, p), s)


def mean_of(points, x):
    """The set of some points that x is a mean of, each with a weight above 0; None if x is no mean of them."""
    for size in range(1, len(x) + 2):
        for indexes in combinations(range(len(points)), size):
            members = [points[i] for i in indexes]
            basis = dependences(members + [tuple(x)])
            # Where the members are independent, x is the last one and has the number 1.
            if not dependences(members) and basis and max(basis[0][:-1]) <= 0:
                return bits(i for i, number in zip(indexes, basis[0]) if number < 0)
    return None


def in_body(n, d, p, x):
    points = points_of(n, d, p)
    members = mean_of(points, x)
    return [-1] if members is None else least_face(points, members)


def best(n, d, p, a):
    points = points_of(n, d, p)
    sums = [sum(x * y for x, y in zip(point, a)) for point in points]
    face = corner_set(points, touched_sets(points)) & bits(i for i in range(n) if sums[i] == max(sums))
    return [dimension(points, face), max(sums), face]


def all_ways(n, d, p):
    """For each pair of corners, how many edges are on the shortest way between them."""
    inside = corners(n, d, p)[1]
    edges = all_faces(n, d, p)[1][1:]
    ends = [i for i in range(n) if inside >> i & 1]
    far = {(i, j): 0 if i == j else 1 if 1 << i | 1 << j in edges else n for i in ends for j in ends}
    for via in ends:
        for i in ends:
            for j in ends:
                far[i, j] = min(far[i, j], far[i, via] + far[via, j])
    return far


def sides(n, d, p):
    return [all_faces(n, d, p)[corners(n, d, p)[0] - 1][0]]


def indexes_of(number):
    return [i for i in range(number.bit_length()) if number >> i & 1]


def shared_faces(n, d, p):
    """For each two corners (or one, twice), how many faces of each dimension hold them."""
    found = all_faces(n, d, p)
    ends = indexes_of(corners(n, d, p)[1])
    return {(i, j): [sum(face >> i & face >> j & 1 for face in found[k][1:]) for k in found]
            for i in ends for j in ends}


def all_matchings(n, d, m, e, p, q):
    """Every way to match the corners, each a list of the second's corners in the order of the first's."""
    ours, theirs = indexes_of(corners(n, d, p)[1]), indexes_of(corners(m, e, q)[1])
    if len(ours) != len(theirs):
        return []
    our_counts, their_counts = shared_faces(n, d, p), shared_faces(m, e, q)
    partial = [[]]
    for at, corner in enumerate(ours):
        partial = [way + [other] for way in partial for other in theirs if other not in way
                   and all(our_counts[ours[i], corner] == their_counts[(way + [other])[i], other]
                           for i in range(at + 1))]
    our_faces = [face for found in all_faces(n, d, p).values() for face in found[1:]]
    their_faces = sorted(face for found in all_faces(m, e, q).values() for face in found[1:])
    return [way for way in partial
            if sorted(bits(way[ours.index(i)] for i in indexes_of(face)) for face in our_faces) == their_faces]


def alike(n, d, m, e, p, q):
    matchings = all_matchings(n, d, m, e, p, q)
    if not matchings:
        return [0]
    matches = dict(zip(indexes_of(corners(n, d, p)[1]), min(matchings)))
    return [1] + [matches.get(i, 255) for i in range(n)]


class Numbers:
    """The same numbers in every run, well mixed."""

    def __init__(self, seed):
        self.state = seed

    def pick(self, least, most):
        self.state = (self.state * 6364136223846793005 + 1442695040888963407) % 2 ** 64
        return least + (self.state >> 33) % (most - least + 1)

    def shuffled(self, values):
        values = list(values)
        return [values.pop(self.pick(0, len(values) - 1)) for turn in range(len(values))]


def sample_bodies(seed, how_many, reach):
    """Bodies of all sizes that are asked of, coordinates from -reach - 1 to reach, some flat, some with equals."""
    numbers = Numbers(seed)
    for turn in range(how_many):
        d = turn % 4 + 1
        n = numbers.pick(1, 9)
        points = [[numbers.pick(-reach - 1, reach) for axis in range(d)] for i in range(n)]
        if turn % 3 == 1:
            axis = numbers.pick(0, d - 1)
            for point in points:
                point[axis] = points[0][axis]
        if turn % 5 == 2:
            points[-1] = list(points[0])
        if turn % 7 == 3 and n > 2:
            points[1] = [(a + b) // 2 for a, b in zip(points[0], points[-1])]
        yield n, d, [x for point in points for x in point]


def sample_means(seed, how_many, reach):
    """Bodies as above, six times as large, each with a mean of up to five of its points."""
    numbers = Numbers(seed)
    for n, d, p in sample_bodies(seed, how_many, reach):
        weights = [(6,), (3, 3), (5, 1), (2, 2, 2), (1, 2, 3), (2, 1, 1, 1, 1)][numbers.pick(0, 5)]
        chosen = [numbers.pick(0, n - 1) for weight in weights]
        points = points_of(n, d, p)
        x = [sum(w * points[i][axis] for w, i in zip(weights, chosen)) for axis in range(d)]
        yield n, d, [6 * number for number in p], x


def flat(points):
    return [x for point in points for x in point]


def doubled(p):
    return [2 * number for number in p]


SQUARE = flat([(0, 0), (2, 0), (0, 2), (2, 2)])
CUBE = flat((i & 1, i >> 1 & 1, i >> 2 & 1) for i in range(8))
OCTAHEDRON = flat([(1, 0, 0), (-1, 0, 0), (0, 1, 0), (0, -1, 0), (0, 0, 1), (0, 0, -1)])
TETRAHEDRON = flat([(0, 0, 0), (1, 0, 0), (0, 1, 0), (0, 0, 1)])
PYRAMID = flat([(0, 0, 0), (2, 0, 0), (0, 2, 0), (2, 2, 0), (1, 1, 5)])
SIMPLEX4 = flat([(0, 0, 0, 0), (1, 0, 0, 0), (0, 1, 0, 0), (0, 0, 1, 0), (0, 0, 0, 1)])
BIPYRAMID = flat([(3, 0, 0), (0, 3, 0), (-2, -2, 0), (0, 0, 2), (0, 0, -2)])
PRISM = flat([(0, 0, 0), (1, 0, 0), (0, 1, 0), (0, 0, 1), (1, 0, 1), (0, 1, 1)])
CROSS4 = flat([tuple(s * (a == b) for b in range(4)) for a in range(4) for s in (1, -1)])
CURVE4 = flat([(t, t ** 2, t ** 3, t ** 4) for t in range(-4, 5)])
TRIANGLES4 = flat([a + b for a in ((0, 0), (1, 0), (0, 1)) for b in ((0, 0), (1, 0), (0, 1))])
# As many faces of each dimension as CURVE4, and each two corners share an edge here too, but other sides.
OTHER4 = flat([(-9, -6, 8, -2), (8, 9, 4, 4), (1, 9, -1, -8), (-3, -8, 1, -7), (-4, 6, -8, 1),
               (1, -5, -6, -4), (2, 8, 9, -5), (-8, 2, -7, 9), (3, 8, 4, 8)])
TWELVE_GON = flat([(t, t * t) for t in range(-6, 6)])
