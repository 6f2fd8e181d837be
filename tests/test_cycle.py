"""What cycle answers for maps that are reckoned by hand."""
import unittest

from landmap.faces import cycle, face, vertex
from shapes import all_cycles_of, box, ring, turned

LARGEST = 4294967295
TRIANGLE = ring((0, 0), (10, 0), (0, 10))
WIDE = ring((0, 0), (90, 0), (0, 90))
NEST = WIDE + ring((9, 9), (50, 9), (9, 50)) + ring((12, 12), (20, 12), (12, 20))
CORNER = ring((0, 0), (30, 0), (0, 30)) + ring((0, 0), (10, 5), (5, 10))


class CycleCase(unittest.TestCase):
    def cycles_are(self, segments, expected):
        """Expected are for each face its cycles, each as the vertices from which its darts go."""
        answers = [[[len(walk)] + walk for walk in walks] for walks in expected]
        self.assertEqual(all_cycles_of(segments), answers)
        self.assertEqual(all_cycles_of(turned(segments)), answers)
        for f, walks in enumerate(expected):
            self.assertEqual(cycle(f, len(walks), segments), [-3])
        self.assertEqual(cycle(len(expected), 0, segments), [-3])


class Face0(CycleCase):
    def test_no_segments(self):
        self.cycles_are([], [[]])
        self.assertEqual(cycle(0, 0, []), [-3])

    def test_one_piece_that_goes_round_nothing(self):
        self.cycles_are([[3, 1, 0, 0]], [[[0, 1]]])
        # 0: 0,0   1: 0,2   2: 1,1   3: 2,0   4: 2,2
        self.cycles_are([[0, 0, 2, 2], [0, 2, 2, 0]], [[[0, 2, 1, 2, 4, 2, 3, 2]]])

    def test_one_piece(self):
        # 0: 0,0   1: 0,10   2: 10,0
        self.cycles_are(TRIANGLE, [[[0, 1, 2]], [[0, 2, 1]]])

    def test_several_pieces(self):
        # 0: 0,0   1: 0,9   2: 9,0   3: 9,9   4: 20,0   5: 20,9   6: 30,0   7: 30,9
        self.cycles_are(box(20, 0, 30, 9) + box(0, 0, 9, 9), [
            [[0, 1, 3, 2], [4, 5, 7, 6]], [[0, 2, 3, 1]], [[4, 6, 7, 5]],
        ])

    def test_several_pieces_that_go_round_nothing(self):
        # 0: 0,0   1: 0,1   2: 0,2   3: 5,0   4: 5,1   5: 5,2
        self.cycles_are([[0, 2, 5, 2], [0, 0, 5, 0], [5, 1, 0, 1]], [[[0, 3], [1, 4], [2, 5]]])

    def test_has_no_cycle_of_its_own(self):
        # The first cycle of face 0 has what it goes round at its right.
        self.assertEqual(cycle(0, 0, box(0, 0, 5, 5)), [4, 0, 1, 3, 2])


class Within(CycleCase):
    def test_own_one_then_those_within_in_order(self):
        right = [[51, 4, 50, 3]]
        left = ring((5, 5), (15, 5), (5, 15))
        middle = ring((30, 5), (40, 5), (30, 25))
        # 0: 0,0   1: 0,90   2: 5,5   3: 5,15   4: 15,5   5: 30,5   6: 30,25   7: 40,5   8: 50,3   9: 51,4   10: 90,0
        expected = [
            [[0, 1, 10]], [[0, 10, 1], [2, 3, 4], [5, 6, 7], [8, 9]], [[2, 4, 3]], [[5, 7, 6]],
        ]
        self.cycles_are(right + middle + left + WIDE, expected)
        self.cycles_are(WIDE + left + middle + right, expected)

    def test_of_as_far_left_the_lower_first(self):
        # 0: 0,0   1: 0,50   2: 10,10   3: 10,20   4: 10,30   5: 20,10   6: 20,20   7: 20,30   8: 50,0   9: 50,50
        within = [[10, 30, 20, 30], [10, 10, 20, 10], [10, 20, 20, 20]]
        self.cycles_are(within + box(0, 0, 50, 50), [
            [[0, 1, 9, 8]], [[0, 8, 9, 1], [2, 5], [3, 6], [4, 7]],
        ])

    def test_large_and_small_alike(self):
        # 0: 0,0   1: 0,50   2: 5,5   3: 6,6   4: 10,10   5: 10,40   6: 40,10   7: 40,40   8: 50,0   9: 50,50
        self.cycles_are(box(0, 0, 50, 50) + box(10, 10, 40, 40) + [[5, 5, 6, 6]], [
            [[0, 1, 9, 8]], [[0, 8, 9, 1], [2, 3], [4, 5, 7, 6]], [[4, 6, 7, 5]],
        ])

    def test_within_one_another(self):
        # 0: 0,0   1: 0,90   2: 9,9   3: 9,50   4: 12,12   5: 12,20   6: 20,12   7: 50,9   8: 90,0
        self.cycles_are(NEST, [
            [[0, 1, 8]], [[0, 8, 1], [2, 3, 7]], [[2, 7, 3], [4, 5, 6]], [[4, 6, 5]],
        ])

    def test_in_one_of_two_faces(self):
        # 0: 0,0   1: 0,10   2: 4,0   3: 4,10   4: 5,1   5: 6,2   6: 10,0   7: 10,10
        self.cycles_are(box(0, 0, 10, 10) + [[4, 0, 4, 10], [6, 2, 5, 1]], [
            [[0, 1, 3, 7, 6, 2]], [[0, 2, 3, 1]], [[2, 6, 7, 3], [4, 5]],
        ])

    def test_own_ones_have_the_face_at_their_left_and_the_others_too(self):
        segments = NEST + [[13, 13, 14, 14]]
        for f in range(1, 4):
            areas = [self.area(walk, segments) for walk in all_cycles_of(segments)[f]]
            self.assertGreater(areas[0], 0)
            self.assertLessEqual(max(areas[1:]), 0)
            count, above, below = face(f, segments)
            self.assertEqual((count, 2 * above), (len(areas), sum(areas) * below))

    def area(self, answer, segments):
        """Twice what a cycle goes round, where all vertices are whole."""
        places = [vertex(i, segments) for i in answer[1:]]
        corners = [(place[1], place[3]) for place in places]
        return sum(a[0] * b[1] - a[1] * b[0] for a, b in zip(corners, corners[1:] + corners[:1]))


class Dangling(CycleCase):
    def test_inward(self):
        # 0: 0,0   1: 0,10   2: 2,2   3: 10,0
        self.cycles_are(TRIANGLE + [[0, 0, 2, 2]], [[[0, 1, 3]], [[0, 2, 0, 3, 1]]])

    def test_outward(self):
        # 0: -2,-2   1: 0,0   2: 0,10   3: 10,0
        self.cycles_are(TRIANGLE + [[0, 0, -2, -2]], [[[0, 1, 2, 3, 1]], [[1, 3, 2]]])

    def test_both_ways(self):
        # 0: -3,2   1: 0,0   2: 0,2   3: 0,10   4: 3,2   5: 10,0
        self.cycles_are(TRIANGLE + [[-3, 2, 3, 2]], [[[0, 2, 3, 5, 1, 2]], [[1, 5, 3, 2, 4, 2]]])

    def test_tree(self):
        # 0: 0,0   1: 3,0   2: 3,5   3: 6,-5   4: 6,0   5: 9,0
        self.cycles_are([[0, 0, 9, 0], [3, 0, 3, 5], [6, 0, 6, -5]], [[[0, 1, 2, 1, 4, 5, 4, 3, 4, 1]]])

    def test_way_of_several_edges(self):
        # 0: 0,0   1: 1,5   2: 2,0   3: 3,5
        self.cycles_are([[0, 0, 1, 5], [1, 5, 2, 0], [2, 0, 3, 5]], [[[0, 1, 2, 3, 2, 1]]])

    def test_told_twice_is_gone_along_once_each_way(self):
        self.cycles_are([[0, 0, 10, 3], [10, 3, 0, 0], [0, 0, 10, 3]], [[[0, 1]]])

    def test_triangle_on_a_stalk_within(self):
        # 0: 0,0   1: 0,90   2: 5,5   3: 10,5   4: 10,10   5: 90,0
        stalk = [[0, 0, 5, 5]] + ring((5, 5), (10, 5), (10, 10))
        self.cycles_are(WIDE + stalk, [[[0, 1, 5]], [[0, 2, 4, 3, 2, 0, 5, 1]], [[2, 3, 4]]])


class TouchingItself(CycleCase):
    def test_in_its_first_vertex(self):
        # 0: 0,0   1: 0,30   2: 5,10   3: 10,5   4: 30,0
        self.cycles_are(CORNER, [[[0, 1, 4]], [[0, 2, 3, 0, 4, 1]], [[0, 3, 2]]])

    def test_amid_a_side(self):
        # 0: 0,0   1: 0,30   2: 8,5   3: 10,0   4: 12,5   5: 30,0
        self.cycles_are(ring((0, 0), (30, 0), (0, 30)) + ring((10, 0), (12, 5), (8, 5)), [
            [[0, 1, 5, 3]], [[0, 3, 2, 4, 3, 5, 1]], [[2, 3, 4]],
        ])

    def test_cycle_of_face_0(self):
        # 0: 0,0   1: 0,10   2: 10,0   3: 10,10   4: 10,20   5: 20,10   6: 20,20
        self.cycles_are(box(0, 0, 10, 10) + box(10, 10, 20, 20), [
            [[0, 1, 3, 4, 6, 5, 3, 2]], [[0, 2, 3, 1]], [[3, 5, 6, 4]],
        ])

    def test_with_a_piece_in_the_pocket(self):
        # 0: 0,0   1: 0,30   2: 5,5   3: 5,10   4: 6,6   5: 10,5   6: 30,0
        self.cycles_are(CORNER + [[5, 5, 6, 6]], [[[0, 1, 6]], [[0, 3, 5, 0, 6, 1]], [[0, 5, 3], [2, 4]]])


class NotWholePlaces(CycleCase):
    def test_crossing(self):
        # 0: 0,0   1: 0,1   2: 2/3,1/3   3: 1,0   4: 2,1
        bow = [[0, 0, 2, 1], [0, 1, 1, 0], [0, 0, 0, 1], [1, 0, 2, 1]]
        self.cycles_are(bow, [[[0, 1, 2, 4, 3, 2]], [[0, 2, 1]], [[2, 3, 4]]])


class TenSegments(CycleCase):
    def test_grid(self):
        flat = [[0, 10 * k, 40, 10 * k] for k in range(5)]
        upright = [[10 * k, 0, 10 * k, 40] for k in range(5)]
        # Vertex (10 * a, 10 * b) is 5 * a + b; the face at its right and above it is 1 + 4 * a + b.
        within = [[[i, i + 5, i + 6, i + 1]] for i in range(20) if i % 5 < 4]
        border = [0, 1, 2, 3, 4, 9, 14, 19, 24, 23, 22, 21, 20, 15, 10, 5]
        self.cycles_are(flat + upright, [[border]] + within)

    def test_all_apart(self):
        self.cycles_are([[0, k, 50, k] for k in range(10)], [[[k, k + 10] for k in range(10)]])


class NoSuchOne(CycleCase):
    WALLED = NEST + [[60, 1, 61, 2]]

    def none_there(self, pairs, segments):
        for f, k in pairs:
            self.assertEqual(cycle(f, k, segments), [-3], (f, k))

    def test_face_below_0(self):
        self.none_there([(f, k) for f in (-1, -2, -3, -4, -5, -LARGEST) for k in (0, 1, -1)], self.WALLED)

    def test_cycle_below_0(self):
        self.none_there([(f, k) for f in range(4) for k in (-1, -2, -3, -4, -LARGEST)], self.WALLED)

    def test_first_ones_that_are_not_there(self):
        counts = [face(f, self.WALLED)[0] for f in range(4)]
        self.assertEqual(counts, [1, 3, 2, 1])
        for f, count in enumerate(counts):
            self.assertGreater(cycle(f, count - 1, self.WALLED)[0], 0)
            self.none_there([(f, count), (f, count + 1)], self.WALLED)
        self.none_there([(4, 0), (4, 1), (5, 0)], self.WALLED)

    def test_very_large(self):
        large = (100, 65536, 2147483648, LARGEST)
        self.none_there([(f, 0) for f in large] + [(0, k) for k in large] + [(1, k) for k in large], self.WALLED)
        self.none_there([(LARGEST, LARGEST), (-LARGEST, LARGEST), (LARGEST, -LARGEST)], self.WALLED)

    def test_no_segments(self):
        self.none_there([(f, k) for f in (-LARGEST, -1, 0, 1, LARGEST) for k in (-LARGEST, -1, 0, 1, LARGEST)], [])


if __name__ == "__main__":
    unittest.main()
