"""Many maps, drawn from fixed seeds, against the answers reckoned in another way."""
import random
import unittest
from fractions import Fraction

import reckoning
import slabs
from landmap.faces import cross, cycle, edge, face, locate, map_of, vertex
from shapes import all_cycles_of, all_edges_of, all_faces_of, ring


def drawn_segments(source, count, reach):
    segments = []
    while len(segments) < count:
        segment = [source.randint(-reach, reach) for _ in range(4)]
        if segment[:2] != segment[2:]:
            segments.append(segment)
    return segments


def drawn_place(source, corners, least):
    """A whole place within the corners, or near their border if the least weight is 0."""
    weights = [source.randint(least, 5) for _ in corners]
    weights[0] += sum(weights) == 0
    return tuple(sum(w * corner[k] for w, corner in zip(weights, corners)) // sum(weights) for k in (0, 1))


def drawn_nest(source, least):
    """Three triangles, each within an earlier one or at its border, and a segment so."""
    corners = [(-100, -100), (100, -90), (source.randint(-100, 100), 100)]
    triangles = [corners]
    for _ in range(2):
        triangles.append([drawn_place(source, source.choice(triangles), least) for _ in range(3)])
    segments = sum([ring(*triangle) for triangle in triangles], [])
    segments.append([*drawn_place(source, triangles[-1], least), *drawn_place(source, triangles[-1], least)])
    return [segment for segment in segments if segment[:2] != segment[2:]]


def drawn_lattice(source):
    """Ten long segments, level and upright, that make many faces beside one another."""
    segments = []
    for k in range(10):
        start, end = source.randint(-6, -3), source.randint(3, 6)
        aside = source.randint(-5, 5)
        segments.append([start, aside, end, aside] if k % 2 else [aside, end, aside, start])
    return segments


def told(source, across, up):
    """The place as a point, perhaps not in lowest terms; None if it can't be told within the bounds."""
    point = []
    for number in (Fraction(across), Fraction(up)):
        factor = source.choice([1, 1, 2, 3, 7])
        point += [number.numerator * factor, number.denominator * factor]
    if max(point[1], point[3]) > 1000 or max(abs(point[0]), abs(point[2])) > 100000:
        return None
    return point


def drawn_points(source, plan):
    """Points at vertices, on edges, just beside them, as high as vertices, and anywhere."""
    places = []
    for a, b in source.sample(plan.edges, min(len(plan.edges), 6)):
        (ax, ay), (bx, by) = plan.vertices[a], plan.vertices[b]
        along = Fraction(source.randint(-1, 4), 3)
        x, y = ax + along * (bx - ax), ay + along * (by - ay)
        aside = Fraction(source.choice([-1, 1]), 60)
        places += [(ax, ay), (bx, by), (x, y), (x + aside, y), (x, y + aside), (x, by), (ax, y)]
    reach = 1 + int(max(abs(number) for place in plan.vertices for number in place))
    for _ in range(6):
        places.append([Fraction(source.randint(-60 * reach, 60 * reach), 60) for _ in range(2)])
        amid = [sum(source.choice(plan.vertices)[k] for _ in range(3)) / 3 for k in (0, 1)]
        places.append([Fraction(round(60 * number), 60) for number in amid])
    points = [told(source, *place) for place in places]
    return [point for point in points if point is not None]


class AgainstReckoning(unittest.TestCase):
    def agrees(self, segments):
        self.assertEqual(map_of(segments), reckoning.map_answer(segments), segments)
        expected = reckoning.vertex_answers(segments)
        answered = [vertex(i, segments) for i in range(len(expected))]
        self.assertEqual(answered, expected, segments)
        self.assertEqual(vertex(len(expected), segments), [-3], segments)
        self.faces_agree(segments)

    def faces_agree(self, segments):
        plan = slabs.Plan(segments)
        edges, faces, cycles = plan.edge_answers(), plan.face_answers(), plan.cycle_answers()
        self.assertEqual(all_edges_of(segments), edges, segments)
        self.assertEqual(all_faces_of(segments), faces, segments)
        self.assertEqual(all_cycles_of(segments), cycles, segments)
        self.assertEqual(edge(len(edges), segments), [-3], segments)
        self.assertEqual(face(len(faces), segments), [-3], segments)
        self.assertEqual(cycle(len(faces), 0, segments), [-3], segments)
        for f, of_face in enumerate(cycles):
            self.assertEqual(cycle(f, len(of_face), segments), [-3], segments)
        self.points_agree(segments, plan)

    def points_agree(self, segments, plan):
        source = random.Random(repr(segments))
        points = drawn_points(source, plan)
        for point in points:
            self.assertEqual(locate(point, segments), plan.locate_answer(point), (point, segments))
        in_faces = [point for point in points if plan.locate_answer(point)[0] == 2]
        pairs = [source.choices(in_faces, k=2) for _ in range(10)] + [source.choices(points, k=2) for _ in range(4)]
        for one, other in pairs:
            self.assertEqual(cross(one + other, segments), plan.cross_answer(one, other), (one, other, segments))

    def many(self, seed, maps, reach, counts):
        source = random.Random(seed)
        for _ in range(maps):
            self.agrees(drawn_segments(source, source.choice(counts), reach))

    def test_crowded_maps(self):
        self.many(1, 150, 1, range(1, 11))
        self.many(2, 100, 2, range(1, 11))

    def test_middling_maps(self):
        self.many(3, 60, 5, range(2, 11))

    def test_wide_maps(self):
        self.many(4, 20, 100, range(2, 11))

    def test_wide_maps_of_ten(self):
        self.many(5, 4, 100, [10])

    def test_lattices(self):
        source = random.Random(8)
        for _ in range(15):
            self.agrees(drawn_lattice(source))

    def test_nests(self):
        source = random.Random(6)
        for _ in range(100):
            self.faces_agree(drawn_nest(source, 1))

    def test_nests_that_touch(self):
        source = random.Random(7)
        for _ in range(100):
            self.faces_agree(drawn_nest(source, 0))


if __name__ == "__main__":
    unittest.main()
