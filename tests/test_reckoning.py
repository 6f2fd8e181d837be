"""Many maps, drawn from fixed seeds, against the answers reckoned in another way."""
import random
import unittest

import reckoning
from landmap.faces import map_of, vertex


def drawn_segments(source, count, reach):
    segments = []
    while len(segments) < count:
        segment = [source.randint(-reach, reach) for _ in range(4)]
        if segment[:2] != segment[2:]:
            segments.append(segment)
    return segments


class AgainstReckoning(unittest.TestCase):
    def agrees(self, segments):
        self.assertEqual(map_of(segments), reckoning.map_answer(segments), segments)
        expected = reckoning.vertex_answers(segments)
        answered = [vertex(i, segments) for i in range(len(expected))]
        self.assertEqual(answered, expected, segments)
        self.assertEqual(vertex(len(expected), segments), [-3], segments)

    def many(self, seed, maps, reach, counts):
        source = random.Random(seed)
        for _ in range(maps):
            self.agrees(drawn_segments(source, source.choice(counts), reach))

    def test_crowded_maps(self):
        self.many(1, 150, 1, range(1, 11))
        self.many(2, 100, 2, range(1, 11))

    def test_middling_maps(self):
        self.many(3, 60, 5, range(2, 11))

    def test_wide_maps(self):
        self.many(4, 20, 100, range(2, 11))

    def test_wide_maps_of_ten(self):
        self.many(5, 4, 100, [10])


if __name__ == "__main__":
    unittest.main()
