"""How edges and cycles are told and numbered, which the calls build on."""
import unittest

from landmap.faces import Land, all_cycles, doubled_area


def cycles_of(segments):
    return all_cycles(Land(segments).rings)


def doubled_areas(segments):
    """Twice what each cycle goes round, for segments that make whole numbers of it."""
    land = Land(segments)
    return [doubled_area(walk, land.points) // land.scale ** 2 for walk in all_cycles(land.rings)]


TRIANGLE = [[0, 0, 10, 0], [10, 0, 0, 10], [0, 10, 0, 0]]


class Edges(unittest.TestCase):
    def test_by_the_first_then_by_the_second(self):
        # 0: 0,0   1: 0,10   2: 2,2   3: 10,0
        self.assertEqual(Land(TRIANGLE + [[2, 2, 0, 0]]).edges, [(0, 1), (0, 2), (0, 3), (1, 3)])

    def test_each_once_where_segments_lie_on_one_another(self):
        segments = [[9, 0, 0, 0], [3, 0, 12, 0], [12, 0, 3, 0], [5, -1, 5, 1]]
        # 0: 0,0   1: 3,0   2: 5,-1   3: 5,0   4: 5,1   5: 9,0   6: 12,0
        self.assertEqual(Land(segments).edges, [(0, 1), (1, 3), (2, 3), (3, 4), (3, 5), (5, 6)])

    def test_in_order_in_a_crowded_map(self):
        edges = Land([[-100, -90 + k * k, 100, 90 - 19 * k] for k in range(10)]).edges
        self.assertEqual(edges, sorted(edges))
        for low, high in edges:
            self.assertLess(low, high)


class Cycles(unittest.TestCase):
    def test_of_no_segments(self):
        self.assertEqual(cycles_of([]), [])

    def test_one_segment_is_gone_there_and_back(self):
        self.assertEqual(cycles_of([[3, 3, 0, 0]]), [[0, 1]])

    def test_begin_with_their_first_dart_and_are_in_order(self):
        # 0: 0,0   1: 0,10   2: 10,0
        self.assertEqual(cycles_of(TRIANGLE), [[0, 1, 2], [0, 2, 1]])
        self.assertEqual(doubled_areas(TRIANGLE), [-100, 100])

    def test_dangling_is_gone_along_twice_within(self):
        segments = TRIANGLE + [[0, 0, 2, 2]]
        self.assertEqual(cycles_of(segments), [[0, 1, 3], [0, 2, 0, 3, 1]])
        self.assertEqual(doubled_areas(segments), [-100, 100])

    def test_turning_right_from_the_way_back_at_a_crossing(self):
        # 0: 0,0   1: 0,2   2: 1,1   3: 2,0   4: 2,2
        self.assertEqual(cycles_of([[0, 0, 2, 2], [0, 2, 2, 0]]), [[0, 2, 1, 2, 4, 2, 3, 2]])
        self.assertEqual(doubled_areas([[0, 0, 2, 2], [0, 2, 2, 0]]), [0])

    def test_each_dart_is_in_one(self):
        segments = [[-100, -90 + k * k, 100, 90 - 19 * k] for k in range(10)]
        darts = []
        for walk in cycles_of(segments):
            darts += [(walk[k - 1], walk[k]) for k in range(len(walk))]
        edges = Land(segments).edges
        self.assertEqual(sorted(darts), sorted(edges + [(high, low) for low, high in edges]))


if __name__ == "__main__":
    unittest.main()
