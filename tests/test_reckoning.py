"""Many maps, drawn from fixed seeds, against the answers reckoned in another way."""
import random
import unittest

import reckoning
import slabs
from landmap.faces import edge, face, map_of, vertex
from shapes import all_edges_of, all_faces_of, ring


def drawn_segments(source, count, reach):
    segments = []
    while len(segments) < count:
        segment = [source.randint(-reach, reach) for _ in range(4)]
        if segment[:2] != segment[2:]:
            segments.append(segment)
    return segments


def drawn_place(source, corners, least):
    """A whole place within the corners, or near their border if the least weight is 0."""
    weights = [source.randint(least, 5) for _ in corners]
    weights[0] += sum(weights) == 0
    return tuple(sum(w * corner[k] for w, corner in zip(weights, corners)) // sum(weights) for k in (0, 1))


def drawn_nest(source, least):
    """Three triangles, each within an earlier one or at its border, and a segment so."""
    corners = [(-100, -100), (100, -90), (source.randint(-100, 100), 100)]
    triangles = [corners]
    for _ in range(2):
        triangles.append([drawn_place(source, source.choice(triangles), least) for _ in range(3)])
    segments = sum([ring(*triangle) for triangle in triangles], [])
    segments.append([*drawn_place(source, triangles[-1], least), *drawn_place(source, triangles[-1], least)])
    return [segment for segment in segments if segment[:2] != segment[2:]]


class AgainstReckoning(unittest.TestCase):
    def agrees(self, segments):
        self.assertEqual(map_of(segments), reckoning.map_answer(segments), segments)
        expected = reckoning.vertex_answers(segments)
        answered = [vertex(i, segments) for i in range(len(expected))]
        self.assertEqual(answered, expected, segments)
        self.assertEqual(vertex(len(expected), segments), [-3], segments)
        self.edges_and_faces_agree(segments)

    def edges_and_faces_agree(self, segments):
        edges, faces = slabs.answers(segments)
        self.assertEqual(all_edges_of(segments), edges, segments)
        self.assertEqual(all_faces_of(segments), faces, segments)
        self.assertEqual(edge(len(edges), segments), [-3], segments)
        self.assertEqual(face(len(faces), segments), [-3], segments)

    def many(self, seed, maps, reach, counts):
        source = random.Random(seed)
        for _ in range(maps):
            self.agrees(drawn_segments(source, source.choice(counts), reach))

    def test_crowded_maps(self):
        self.many(1, 150, 1, range(1, 11))
        self.many(2, 100, 2, range(1, 11))

    def test_middling_maps(self):
        self.many(3, 60, 5, range(2, 11))

    def test_wide_maps(self):
        self.many(4, 20, 100, range(2, 11))

    def test_wide_maps_of_ten(self):
        self.many(5, 4, 100, [10])

    def test_nests(self):
        source = random.Random(6)
        for _ in range(100):
            self.edges_and_faces_agree(drawn_nest(source, 1))

    def test_nests_that_touch(self):
        source = random.Random(7)
        for _ in range(100):
            self.edges_and_faces_agree(drawn_nest(source, 0))


if __name__ == "__main__":
    unittest.main()
