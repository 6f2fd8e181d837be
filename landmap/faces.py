"""The map that segments make: the calls, and the vertices, edges, cycles, faces and pieces behind them."""

MOST_SEGMENTS = 10
FARTHEST = 100
MOST_ABOVE = 100000
MOST_BELOW = 1000

BAD_SEGMENT = -1
TOO_MANY_SEGMENTS = -2
NO_SUCH_ONE = -3
BAD_POINT = -4
POINT_IN_NO_FACE = -5

AT_VERTEX = 0
ON_EDGE = 1
IN_FACE = 2


def map_of(segments):
    """Answer how many vertices, edges, faces and pieces the segments make."""
    refused = refusal_of(segments, [])
    if refused < 0:
        return [refused]
    land = Land(segments)
    # Of a piece's cycles just one isn't above 0, that which has the whole piece at its right.
    pieces = len(land.cycles) - len(land.owners)
    return [len(land.points), len(land.edges), count_faces(land), pieces]


def vertex(i, segments):
    """Answer vertex i: how many neighbours, its place, its neighbours round it."""
    refused = refusal_of(segments, [])
    if refused < 0:
        return [refused]
    land = Land(segments)
    if i < 0 or i >= len(land.points):
        return [NO_SUCH_ONE]
    place = land.points[i]
    ring = land.rings[i]
    return [len(ring)] + lowest_terms(place[0], land.scale) + lowest_terms(place[1], land.scale) + ring


def edge(i, segments):
    """Answer edge i: its two vertices, then the faces at its left and at its right."""
    refused = refusal_of(segments, [])
    if refused < 0:
        return [refused]
    land = Land(segments)
    if i < 0 or i >= len(land.edges):
        return [NO_SUCH_ONE]
    low = land.edges[i][0]
    high = land.edges[i][1]
    # What is at an edge's right is at the left of the way back.
    return [low, high, land.lefts[(low, high)], land.lefts[(high, low)]]


def face(i, segments):
    """Answer face i: how many cycles, then its area."""
    refused = refusal_of(segments, [])
    if refused < 0:
        return [refused]
    land = Land(segments)
    if i < 0 or i >= count_faces(land):
        return [NO_SUCH_ONE]
    areas = [land.areas[k] for k in range(len(land.cycles)) if land.homes[k] == i]
    return [len(areas)] + lowest_terms(sum(areas), 2 * land.scale ** 2)


def cycle(f, k, segments):
    """Answer cycle k of face f: how many darts, then the vertices from which they go."""
    refused = refusal_of(segments, [])
    if refused < 0:
        return [refused]
    land = Land(segments)
    # A face's own cycle begins further left than all within it, so in the cycles' order it is the first.
    walks = [land.cycles[j] for j in range(len(land.cycles)) if land.homes[j] == f]
    if k < 0 or k >= len(walks):
        return [NO_SUCH_ONE]
    return [len(walks[k])] + walks[k]


def locate(point, segments):
    """Answer where the point lies: 0 and a vertex, 1 and an edge, or 2 and a face."""
    refused = refusal_of(segments, [point])
    if refused < 0:
        return [refused]
    return whereabouts(point, Land(segments, point[1] * point[3]))


def cross(points, segments):
    """Answer how few edges must be crossed from the one point, the first four numbers, to the other."""
    one = points[:4]
    other = points[4:]
    refused = refusal_of(segments, [one, other])
    if refused < 0:
        return [refused]
    land = Land(segments, one[1] * one[3] * other[1] * other[3])
    start = whereabouts(one, land)
    goal = whereabouts(other, land)
    if start[0] != IN_FACE or goal[0] != IN_FACE:
        return [POINT_IN_NO_FACE]
    return [fewest_crossings(start[1], goal[1], land.lefts)]


def refusal_of(segments, points):
    """The number that refuses the segments or one of the points, or 0."""
    if len(segments) > MOST_SEGMENTS:
        return TOO_MANY_SEGMENTS
    if not all([is_right_segment(segment) for segment in segments]):
        return BAD_SEGMENT
    if not all([is_right_point(point) for point in points]):
        return BAD_POINT
    return 0


def is_right_segment(segment):
    if len(segment) != 4:
        return False
    if min(segment) < -FARTHEST or max(segment) > FARTHEST:
        return False
    return segment[:2] != segment[2:]


def is_right_point(point):
    return len(point) == 4 and is_right_fraction(point[:2]) and is_right_fraction(point[2:])


def is_right_fraction(pair):
    return abs(pair[0]) <= MOST_ABOVE and 1 <= pair[1] and pair[1] <= MOST_BELOW


class Land:

    def __init__(self, segments, finer=1):
        """What the segments make.

        scale: by how much all places are multiplied, so that each of them is whole, a multiple of finer;
        points: the vertices' places (across, up), so multiplied, by the vertices' numbers;
        edges: pairs of vertices, by the edges' numbers;
        rings: for each vertex its neighbours, from the way straight to the right on, turning left;
        cycles: the cycles in order, each as the vertices from which its darts go;
        areas: for each cycle twice the area that it goes round, multiplied by the scale twice;
        owners: which cycles are above 0; the first of them is face 1's own, and so on;
        homes: for each cycle the face whose own it is, or within which it is;
        lefts: for each dart the face at its left.
        """
        self.scale = finer * common_scale(segments)
        lines = [scaled_line(segment, self.scale) for segment in segments]
        self.points = all_points(lines)
        self.edges = all_edges(lines, self.points)
        self.rings = all_rings(self.points, self.edges)
        self.cycles = all_cycles(self.rings)
        self.areas = [doubled_area(walk, self.points) for walk in self.cycles]
        self.owners = [k for k in range(len(self.areas)) if self.areas[k] > 0]
        self.homes = [home_of(k, self) for k in range(len(self.cycles))]
        self.lefts = all_lefts(self.cycles, self.homes)


def common_scale(segments):
    """A number by which all meeting points can be multiplied so that they are whole."""
    scale = 1
    for k in range(len(segments)):
        for other in segments[:k]:
            # What is below in a meeting point's fractions divides this number.
            slant = abs(slant_between(segments[k], other))
            if slant > 0:
                scale = scale * (slant // greatest_common(scale, slant))
    return scale


def slant_between(one, other):
    """0 just if the segments are parallel or on one line."""
    return (one[2] - one[0]) * (other[3] - other[1]) - (one[3] - one[1]) * (other[2] - other[0])


def greatest_common(a, b):
    """The greatest number that divides both, neither of them below 0."""
    while b > 0:
        rest = a % b
        a = b
        b = rest
    return a


def lowest_terms(above, below):
    common = greatest_common(abs(above), below)
    return [above // common, below // common]


def scaled_line(segment, scale):
    """The segment's two ends, multiplied, the one that is numbered lower first."""
    first = (segment[0] * scale, segment[1] * scale)
    second = (segment[2] * scale, segment[3] * scale)
    return (min(first, second), max(first, second))


def turn(a, b, c):
    """Above 0 if c is at the left, going from a to b; below 0 at the right; 0 on their line."""
    return (b[0] - a[0]) * (c[1] - a[1]) - (b[1] - a[1]) * (c[0] - a[0])


def all_points(lines):
    """The places of all vertices, in order."""
    places = []
    for k in range(len(lines)):
        places.extend(lines[k])
        for other in lines[:k]:
            places.extend(meeting(lines[k], other))
    return sorted(set(places))


def meeting(line, other):
    """A list of the point where the two meet; empty if they don't, or if they are on one line."""
    first_off = turn(other[0], other[1], line[0])
    second_off = turn(other[0], other[1], line[1])
    change = first_off - second_off
    if change == 0 or not reaches_across(first_off, second_off):
        return []
    if not reaches_across(turn(line[0], line[1], other[0]), turn(line[0], line[1], other[1])):
        return []
    first = line[0]
    second = line[1]
    # The scale is a multiple of what is below, so nothing is left over.
    across = first[0] + (second[0] - first[0]) * first_off // change
    up = first[1] + (second[1] - first[1]) * first_off // change
    return [(across, up)]


def reaches_across(first_off, second_off):
    """Whether two ends are not both at the same side of a line."""
    return min(first_off, second_off) <= 0 and max(first_off, second_off) >= 0


def all_edges(lines, points):
    """The edges as pairs of vertices, in order."""
    pairs = []
    for line in lines:
        stops = [k for k in range(len(points)) if lies_on(points[k], line)]
        pairs.extend([(stops[k - 1], stops[k]) for k in range(1, len(stops))])
    return sorted(set(pairs))


def lies_on(point, line):
    # Along a line points come in the order of the vertices, so the ends bound what is between.
    return turn(line[0], line[1], point) == 0 and line[0] <= point and point <= line[1]


def all_rings(points, edges):
    """For each vertex its neighbours, from the way straight to the right on, turning left."""
    neighbours = [[] for point in points]
    for pair in edges:
        neighbours[pair[0]].append(pair[1])
        neighbours[pair[1]].append(pair[0])
    return [ring_round(k, neighbours[k], points) for k in range(len(points))]


def ring_round(centre, neighbours, points):
    return sorted(neighbours, key=lambda one: count_ahead(centre, one, neighbours, points))


def count_ahead(centre, one, neighbours, points):
    """How many of the neighbours are met ahead of this one."""
    return len([k for k in neighbours if is_ahead(points[centre], points[k], points[one])])


def is_ahead(centre, a, b):
    """Whether a is met ahead of b, turning left from the way straight to the right."""
    if in_first_half(centre, a) != in_first_half(centre, b):
        return in_first_half(centre, a)
    # Within half a turn, the one is ahead that has the other at its left.
    return turn(centre, a, b) > 0


def in_first_half(centre, point):
    """Whether the way there is straight to the right, or above up to, not with, straight to the left."""
    if point[1] == centre[1]:
        return point[0] > centre[0]
    return point[1] > centre[1]


def all_cycles(rings):
    """All cycles in order, each as the vertices from which its darts go."""
    done = {}
    cycles = []
    for start in range(len(rings)):
        for end in sorted(rings[start]):
            if (start, end) not in done:
                darts = cycle_of_dart((start, end), rings)
                for dart in darts:
                    done[dart] = True
                cycles.append([dart[0] for dart in darts])
    return cycles


def cycle_of_dart(first, rings):
    """The darts of the cycle in which the first one is, beginning with it."""
    darts = [first]
    dart = dart_behind(first, rings)
    while dart != first:
        darts.append(dart)
        dart = dart_behind(dart, rings)
    return darts


def dart_behind(dart, rings):
    ring = rings[dart[1]]
    # Rings turn left, so to the right of the way back is the one ahead of it; ahead of the first is the last.
    return (dart[1], ring[ring.index(dart[0]) - 1])


def doubled_area(walk, points):
    """Twice the area that the walk has at its left, multiplied by the scale twice."""
    total = 0
    for k in range(len(walk)):
        a = points[walk[k - 1]]
        b = points[walk[k]]
        total += a[0] * b[1] - a[1] * b[0]
    return total


def count_faces(land):
    # The face without end is there even if no cycle goes round anything.
    return 1 + len(land.owners)


def home_of(k, land):
    """The face whose own cycle k is, or within which it is."""
    if k in land.owners:
        return 1 + land.owners.index(k)
    return face_round(land.points[land.cycles[k][0]], land)


def face_round(place, land):
    """The face of that cycle which goes round the least area, of those that go round the place."""
    around = [k for k in land.owners if goes_round(land.cycles[k], place, land.points)]
    if around == []:
        return 0
    return 1 + land.owners.index(min(around, key=lambda k: land.areas[k]))


def goes_round(walk, place, points):
    """Whether the place, a vertex's or one on no edge, is at the walk's left and not on it."""
    corners = [points[k] for k in walk]
    if place in corners:
        return False
    return sum([passes(corners[k - 1], corners[k], place) for k in range(len(corners))]) > 0


def passes(a, b, place):
    """1 if going from a to b one passes straight to the right of the place upward, -1 downward, else 0."""
    # A dart's lower end counts and its upper one doesn't, so that a corner as high as the place isn't counted twice.
    if a[1] <= place[1] and place[1] < b[1]:
        return 1 if turn(a, b, place) > 0 else 0
    if b[1] <= place[1] and place[1] < a[1]:
        return -1 if turn(a, b, place) < 0 else 0
    return 0


def all_lefts(cycles, homes):
    """For each dart the face whose own cycle, or a cycle within it, has the dart."""
    lefts = {}
    for k in range(len(cycles)):
        walk = cycles[k]
        for j in range(len(walk)):
            lefts[(walk[j - 1], walk[j])] = homes[k]
    return lefts


def whereabouts(point, land):
    """On or in what the point lies, and its number; the land's scale must make the point whole."""
    place = (point[0] * land.scale // point[1], point[2] * land.scale // point[3])
    if place in land.points:
        return [AT_VERTEX, land.points.index(place)]
    for k in range(len(land.edges)):
        pair = land.edges[k]
        if lies_on(place, (land.points[pair[0]], land.points[pair[1]])):
            return [ON_EDGE, k]
    return [IN_FACE, face_round(place, land)]


def fewest_crossings(start, goal, lefts):
    """How few edges must be crossed from the one face to the other."""
    reached = [start]
    count = 0
    # Between any two faces there is a way across edges, so the goal is reached.
    while goal not in reached:
        # At a dart's other side is what is at the left of the way back.
        beyond = [lefts[(dart[1], dart[0])] for dart in lefts if lefts[dart] in reached]
        reached = sorted(set(reached + beyond))
        count += 1
    return count
