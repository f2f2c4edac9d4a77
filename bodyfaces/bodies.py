"""The body of some points: its corners and faces, where points lie in it, what is best in a direction, the
ways over its edges, and whether two bodies are built alike, by whole numbers alone.

A set of points is one number, the sum of 2 to the i for its points i.

A point is held as a vector: a 1, then its coordinates. The 1 takes up the plane's own number c, and the
rule that the numbers of a dependence sum up to 0, so that planes and dimensions are plain linear algebra.
"""

REFUSAL = -2
NOT_IN_BODY = -1
ALIKE = 1
NOT_ALIKE = 0
NO_MATCH = 255
MOST_POINTS = 12
MOST_COORDINATES = 4
LEAST_FACE_DIMENSION = -1
MOST_FACE_DIMENSION = 4
EDGE_DIMENSION = 1


def corners(n, d, p):
    """Answer the body's dimension, then the set of its corners; or a refusal alone."""
    if is_refused_body(n, d):
        return [REFUSAL]
    vectors = point_vectors(n, d, p)
    found = corners_of(vectors)
    return [dimension(vectors, found), found]


def faces(n, d, k, p):
    """Answer how many faces of dimension k there are, then these, the least first; or a refusal alone."""
    if is_refused_body(n, d) or is_refused_dimension(k):
        return [REFUSAL]
    vectors = point_vectors(n, d, p)
    found = face_sets_of(vectors, k)
    return [len(found)] + found


def least(n, d, s, p):
    """Answer the dimension of the least face round the points of s, then that face; or a refusal alone."""
    if is_refused_body(n, d) or s >> n != 0:
        return [REFUSAL]
    return least_face(point_vectors(n, d, p), s)


def in_body(n, d, p, x):
    """Answer the dimension of the least face round x, then that face; or alone that x is not in the body."""
    if is_refused_body(n, d):
        return [REFUSAL]
    # With x as one more point behind the others, either it is a corner, which is a face by itself, and was
    # not in the body; or the body and its corners are what they were without it.
    x_alone = 1 << n
    answer = least_face(point_vectors(n, d, p) + [[1] + x], x_alone)
    return [NOT_IN_BODY] if answer[1] == x_alone else answer


def best(n, d, p, a):
    """Answer the dimension of the corners where the sum is greatest, that sum, then these; or a refusal alone."""
    if is_refused_body(n, d):
        return [REFUSAL]
    vectors = point_vectors(n, d, p)
    # A vector begins with a 1 that is no coordinate.
    direction = [0] + a
    heights = [inner_product(direction, vector) for vector in vectors]
    greatest = max(heights)
    face = corners_of(vectors) & set_number([i for i, height in enumerate(heights) if height == greatest])
    return [dimension(vectors, face), greatest, face]


def way(n, d, i, j, p):
    """Answer the fewest edges on a way from corner i to corner j; or a refusal alone."""
    if is_refused_body(n, d):
        return [REFUSAL]
    vectors = point_vectors(n, d, p)
    ends = members(corners_of(vectors))
    if i not in ends or j not in ends:
        return [REFUSAL]
    return [fewest_edges(face_sets_of(vectors, EDGE_DIMENSION), i, j)]


def sides(n, d, p):
    """Answer how many sides the body has; or a refusal alone."""
    if is_refused_body(n, d):
        return [REFUSAL]
    return [len(side_sets(point_vectors(n, d, p)))]


def alike(n, d, m, e, p, q):
    """Answer 1, then each point's match in the second body; or 0 if they are not alike; or a refusal alone."""
    if is_refused_body(n, d) or is_refused_body(m, e):
        return [REFUSAL]
    first = point_vectors(n, d, p)
    second = point_vectors(m, e, q)
    first_corners = members(corners_of(first))
    matches = least_matches(first_corners, side_sets(first), members(corners_of(second)), side_sets(second))
    if matches is None:
        return [NOT_ALIKE]
    answer = [NO_MATCH] * n
    for corner, partner in zip(first_corners, matches):
        answer[corner] = partner
    return [ALIKE] + answer


def is_refused_body(n, d):
    return n < 1 or n > MOST_POINTS or d < 1 or d > MOST_COORDINATES


def is_refused_dimension(k):
    return k < LEAST_FACE_DIMENSION or k > MOST_FACE_DIMENSION


def point_vectors(n, d, p):
    return [[1] + p[i * d:(i + 1) * d] for i in range(n)]


def set_number(indexes):
    number = 0
    for i in indexes:
        number = number | (1 << i)
    return number


def members(number):
    """The indexes of a set's points, in rising order."""
    return [i for i in range(number.bit_length()) if (number >> i) & 1 == 1]


def dimension(vectors, chosen):
    """The dimension of a set of points, -1 of none."""
    rows = cleared_rows([vectors[i] for i in members(chosen)], len(vectors[0]))
    return len(rows) - 1


def face_sets(vectors):
    """Every face of the body, of whatever dimension, the least number first."""
    touched = touched_sets(vectors)
    body_corners = corner_set(vectors, touched)
    return sorted([points & body_corners for points in touched])


def face_sets_of(vectors, k):
    """Every face of dimension k, the least number first."""
    return [face for face in face_sets(vectors) if dimension(vectors, face) == k]


def fewest_edges(edges, start, end):
    """How many edges lead from start to end at the least; there is a way from each corner to each other."""
    reached = 1 << start
    steps = 0
    while (reached >> end) & 1 == 0:
        wider = reached
        for edge in edges:
            if edge & reached != 0:
                wider = wider | edge
        reached = wider
        steps = steps + 1
    return steps


def least_matches(first_corners, first_sides, second_corners, second_sides):
    """The least list of second corners that match the first ones in their order, or None.

    Faces are what sides have in common, so a matching that takes sides to sides takes faces to faces.
    """
    if len(first_corners) != len(second_corners):
        return None
    traces = [0] * len(first_sides)
    wanted = [sorted(traces)]
    for corner in first_corners:
        traces = longer_traces(traces, first_sides, corner)
        wanted.append(sorted(traces))
    return least_matches_behind([], [0] * len(second_sides), wanted, second_corners, second_sides)


def least_matches_behind(matched, traces, wanted, second_corners, second_sides):
    """The least list that goes on from what is matched, or None.

    A side's trace tells which of the corners matched so far it holds. As long as the traces of both bodies'
    sides are the same but for their order, the matching may be part of a whole one; at the end it is one.
    """
    if sorted(traces) != wanted[len(matched)]:
        return None
    if len(matched) == len(second_corners):
        return matched
    for corner in [other for other in second_corners if other not in matched]:
        longer = longer_traces(traces, second_sides, corner)
        found = least_matches_behind(matched + [corner], longer, wanted, second_corners, second_sides)
        if found is not None:
            return found
    return None


def longer_traces(traces, body_sides, corner):
    return [2 * trace + ((side >> corner) & 1) for trace, side in zip(traces, body_sides)]


def least_face(vectors, points):
    """The dimension of the least face that planes through all these points touch, then that face."""
    touched = touched_sets(vectors)
    face = corner_set(vectors, touched)
    for other in touched:
        if points & other == points:
            face = face & other
    return [dimension(vectors, face), face]


def corners_of(vectors):
    return corner_set(vectors, touched_sets(vectors))


def corner_set(vectors, touched):
    """The corners, out of all sets of points that planes touch."""
    found = []
    for i, vector in enumerate(vectors):
        equals = set_number([j for j, other in enumerate(vectors) if other == vector])
        if equals in touched and vectors.index(vector) == i:
            found.append(i)
    return set_number(found)


def touched_sets(vectors):
    """Every set of points, corners or not, that some plane touches: the keys of a dict.

    Each is all of the points, or what some of the sides have in common. No point lies on every side, so
    the set of no points comes out among them.
    """
    touched = {(1 << len(vectors)) - 1: True}
    for side in side_sets(vectors):
        for other in list(touched):
            touched[side & other] = True
    return touched


def side_sets(vectors):
    """The sets of points that lie on a side of the body."""
    flat = full_vectors(vectors)
    width = len(flat[0])
    found = {}
    for choice in choices(len(flat), width - 1):
        plane = plane_through([flat[i] for i in choice], width)
        if plane is not None:
            heights = [inner_product(plane, vector) for vector in flat]
            if min(heights) >= 0 or max(heights) <= 0:
                found[set_number([i for i, height in enumerate(heights) if height == 0])] = True
    return list(found)


def full_vectors(vectors):
    """The vectors without the columns that the others tell.

    A body of fewer dimensions than the space around it has many planes through each side; among the
    columns that are left there is just one.
    """
    columns = [leading_column(row) for row in cleared_rows(vectors, len(vectors[0]))]
    return [[vector[column] for column in columns] for vector in vectors]


def choices(n, size):
    """Every way to choose so many of the numbers from 0 to n - 1, each in rising order."""
    found = [[]]
    for length in range(size):
        longer = []
        for choice in found:
            start = choice[length - 1] + 1 if length > 0 else 0
            longer.extend([choice + [i] for i in range(start, n)])
        found = longer
    return found


def plane_through(vectors, width):
    """The direction that is square to all these vectors, or None where there is more than one."""
    rows = cleared_rows(vectors, width)
    if len(rows) < width - 1:
        return None
    leads = [leading_column(row) for row in rows]
    free = [column for column in range(width) if column not in leads][0]
    plane = [0] * width
    plane[free] = rows[0][leads[0]] if len(rows) > 0 else 1
    for row, lead in zip(rows, leads):
        plane[lead] = -row[free]
    return plane


def inner_product(first, second):
    return sum([a * b for a, b in zip(first, second)])


def leading_column(row):
    return [column for column, number in enumerate(row) if number != 0][0]


def cleared_rows(rows, width):
    """As many rows as are independent, with the same span, each leading column cleared in all but its row.

    All rows end up with one and the same leading number, which plane_through relies on.
    """
    done = []
    rest = rows
    last = 1
    for column in range(width):
        heads = [row for row in rest if row[column] != 0]
        if len(heads) > 0:
            head = heads[0]
            done = [cleared_row(row, head, column, last) for row in done] + [head]
            # The head itself stays behind as a row of zeros, which never leads again.
            rest = [cleared_row(row, head, column, last) for row in rest]
            last = head[column]
    return done


def cleared_row(row, head, column, last):
    """The row with its number in the column brought to 0 by the head.

    Every number is a minor of the rows at the outset, so the head before this one divides without a rest.
    """
    return [(head[column] * number - row[column] * above) // last for number, above in zip(row, head)]
