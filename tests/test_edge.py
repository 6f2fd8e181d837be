"""What edge answers for maps that are reckoned by hand."""
import unittest

from landmap.faces import edge
from shapes import all_edges_of, box, ring, turned

TRIANGLE = ring((0, 0), (10, 0), (0, 10))
NEST = ring((0, 0), (90, 0), (0, 90)) + ring((9, 9), (50, 9), (9, 50)) + ring((12, 12), (20, 12), (12, 20))


class EdgeCase(unittest.TestCase):
    def edges_are(self, segments, expected):
        self.assertEqual(all_edges_of(segments), expected)
        self.assertEqual(edge(len(expected), segments), [-3])
        self.assertEqual(all_edges_of(turned(segments)), expected)


class BorderOfFace0(EdgeCase):
    def test_triangle(self):
        # 0: 0,0   1: 0,10   2: 10,0
        self.edges_are(TRIANGLE, [[0, 1, 0, 1], [0, 2, 1, 0], [1, 2, 0, 1]])

    def test_across_and_up(self):
        # 0: 0,0   1: 0,10   2: 10,0   3: 10,10
        self.edges_are(box(0, 0, 10, 10), [[0, 1, 0, 1], [0, 2, 1, 0], [1, 3, 0, 1], [2, 3, 1, 0]])

    def test_slanting_up_and_down(self):
        # 0: -5,0   1: 0,-5   2: 0,5   3: 5,0
        diamond = ring((-5, 0), (0, -5), (5, 0), (0, 5))
        self.edges_are(diamond, [[0, 1, 1, 0], [0, 2, 0, 1], [1, 3, 1, 0], [2, 3, 0, 1]])

    def test_boxes_touching_in_one_corner(self):
        # 0: 0,0   1: 0,10   2: 10,0   3: 10,10   4: 10,20   5: 20,10   6: 20,20
        self.edges_are(box(0, 0, 10, 10) + box(10, 10, 20, 20), [
            [0, 1, 0, 1], [0, 2, 1, 0], [1, 3, 0, 1], [2, 3, 1, 0],
            [3, 4, 0, 2], [3, 5, 2, 0], [4, 6, 0, 2], [5, 6, 2, 0],
        ])

    def test_boxes_beside_one_another(self):
        # 0: 0,0   1: 0,9   2: 9,0   3: 9,9   4: 20,0   5: 20,9   6: 30,0   7: 30,9
        self.edges_are(box(20, 0, 30, 9) + box(0, 0, 9, 9), [
            [0, 1, 0, 1], [0, 2, 1, 0], [1, 3, 0, 1], [2, 3, 1, 0],
            [4, 5, 0, 2], [4, 6, 2, 0], [5, 7, 0, 2], [6, 7, 2, 0],
        ])


class BetweenTwoFaces(EdgeCase):
    def test_going_up(self):
        # 0: 0,0   1: 0,10   2: 4,0   3: 4,10   4: 10,0   5: 10,10
        self.edges_are(box(0, 0, 10, 10) + [[4, 10, 4, 0]], [
            [0, 1, 0, 1], [0, 2, 1, 0], [1, 3, 0, 1], [2, 3, 1, 2], [2, 4, 2, 0], [3, 5, 0, 2], [4, 5, 2, 0],
        ])

    def test_going_across(self):
        # 0: 0,0   1: 0,4   2: 0,10   3: 10,0   4: 10,4   5: 10,10
        self.edges_are(box(0, 0, 10, 10) + [[0, 4, 10, 4]], [
            [0, 1, 0, 1], [0, 3, 1, 0], [1, 2, 0, 2], [1, 4, 2, 1], [2, 5, 0, 2], [3, 4, 1, 0], [4, 5, 2, 0],
        ])

    def test_slanting_up_and_down(self):
        # 0: 0,0   1: 0,4   2: 2,2   3: 4,0   4: 4,4; face 1 is at the left, 2 below, 3 above, 4 at the right.
        self.edges_are(box(0, 0, 4, 4) + [[0, 0, 4, 4], [0, 4, 4, 0]], [
            [0, 1, 0, 1], [0, 2, 1, 2], [0, 3, 2, 0], [1, 2, 3, 1],
            [1, 4, 0, 3], [2, 3, 4, 2], [2, 4, 3, 4], [3, 4, 4, 0],
        ])

    def test_triangle_in_a_corner_of_another(self):
        # 0: 0,0   1: 0,30   2: 5,10   3: 10,5   4: 30,0
        self.edges_are(ring((0, 0), (30, 0), (0, 30)) + ring((0, 0), (10, 5), (5, 10)), [
            [0, 1, 0, 1], [0, 2, 1, 2], [0, 3, 2, 1], [0, 4, 1, 0], [1, 4, 0, 1], [2, 3, 1, 2],
        ])


class Dangling(EdgeCase):
    def test_one_segment_alone(self):
        for segment in ([0, 0, 3, 1], [0, 0, 3, -1], [0, 0, 3, 0], [0, 0, 0, 3]):
            self.edges_are([segment], [[0, 1, 0, 0]])

    def test_tree(self):
        segments = [[0, 0, 9, 0], [3, 0, 3, 5], [6, 0, 6, -5]]
        # 0: 0,0   1: 3,0   2: 3,5   3: 6,-5   4: 6,0   5: 9,0
        self.edges_are(segments, [[0, 1, 0, 0], [1, 2, 0, 0], [1, 4, 0, 0], [3, 4, 0, 0], [4, 5, 0, 0]])

    def test_inward(self):
        # 0: 0,0   1: 0,10   2: 2,2   3: 10,0
        self.edges_are(TRIANGLE + [[0, 0, 2, 2]], [[0, 1, 0, 1], [0, 2, 1, 1], [0, 3, 1, 0], [1, 3, 0, 1]])

    def test_outward(self):
        # 0: -2,-2   1: 0,0   2: 0,10   3: 10,0
        self.edges_are(TRIANGLE + [[0, 0, -2, -2]], [[0, 1, 0, 0], [1, 2, 0, 1], [1, 3, 1, 0], [2, 3, 0, 1]])

    def test_both_ways(self):
        # 0: -3,2   1: 0,0   2: 0,2   3: 0,10   4: 3,2   5: 10,0
        self.edges_are(TRIANGLE + [[-3, 2, 3, 2]], [
            [0, 2, 0, 0], [1, 2, 0, 1], [1, 5, 1, 0], [2, 3, 0, 1], [2, 4, 1, 1], [3, 5, 0, 1],
        ])

    def test_in_the_second_of_two_faces(self):
        # 0: 0,0   1: 0,10   2: 4,0   3: 4,5   4: 4,10   5: 7,5   6: 10,0   7: 10,10
        self.edges_are(box(0, 0, 10, 10) + [[4, 0, 4, 10], [7, 5, 4, 5]], [
            [0, 1, 0, 1], [0, 2, 1, 0], [1, 4, 0, 1], [2, 3, 1, 2], [2, 6, 2, 0],
            [3, 4, 1, 2], [3, 5, 2, 2], [4, 7, 0, 2], [6, 7, 2, 0],
        ])


class Within(EdgeCase):
    def test_segment_within_a_box(self):
        # 0: 0,0   1: 0,10   2: 3,3   3: 4,7   4: 10,0   5: 10,10
        self.edges_are(box(0, 0, 10, 10) + [[3, 3, 4, 7]], [
            [0, 1, 0, 1], [0, 4, 1, 0], [1, 5, 0, 1], [2, 3, 1, 1], [4, 5, 1, 0],
        ])

    def test_box_within_a_box(self):
        # 0: 0,0   1: 0,9   2: 3,3   3: 3,7   4: 7,3   5: 7,7   6: 9,0   7: 9,9
        self.edges_are(box(3, 3, 7, 7) + box(0, 0, 9, 9), [
            [0, 1, 0, 1], [0, 6, 1, 0], [1, 7, 0, 1], [2, 3, 1, 2],
            [2, 4, 2, 1], [3, 5, 1, 2], [4, 5, 2, 1], [6, 7, 1, 0],
        ])

    def test_within_the_least_of_three_triangles(self):
        # 0: 0,0   1: 0,90   2: 9,9   3: 9,50   4: 12,12   5: 12,20   6: 13,13   7: 14,14   8: 20,12   9: 50,9
        self.edges_are(NEST + [[13, 13, 14, 14]], [
            [0, 1, 0, 1], [0, 10, 1, 0], [1, 10, 0, 1], [2, 3, 1, 2], [2, 9, 2, 1],
            [3, 9, 1, 2], [4, 5, 2, 3], [4, 8, 3, 2], [5, 8, 2, 3], [6, 7, 3, 3],
        ])

    def test_within_the_greatest_alone(self):
        # 0: 0,0   1: 0,90   2: 7,50   3: 8,50   4: 9,9   5: 9,50   6: 12,12   7: 12,20   8: 20,12   9: 50,9
        self.edges_are(NEST + [[7, 50, 8, 50]], [
            [0, 1, 0, 1], [0, 10, 1, 0], [1, 10, 0, 1], [2, 3, 1, 1], [4, 5, 1, 2],
            [4, 9, 2, 1], [5, 9, 1, 2], [6, 7, 2, 3], [6, 8, 3, 2], [7, 8, 2, 3],
        ])
        # 7: 50,9   8: 60,10   9: 61,11   10: 90,0
        self.assertEqual(edge(9, NEST + [[60, 10, 61, 11]]), [8, 9, 1, 1])

    def test_in_the_notch_of_a_face_but_not_within_it(self):
        hoof = ring((0, 0), (30, 0), (30, 30), (20, 30), (20, 10), (10, 10), (10, 30), (0, 30))
        # 0: 0,0   1: 0,30   2: 10,10   3: 10,30   4: 14,20   5: 16,25   6: 20,10   7: 20,30   8: 30,0   9: 30,30
        self.edges_are(hoof + [[14, 20, 16, 25]], [
            [0, 1, 0, 1], [0, 8, 1, 0], [1, 3, 0, 1], [2, 3, 1, 0], [2, 6, 0, 1],
            [4, 5, 0, 0], [6, 7, 0, 1], [7, 9, 0, 1], [8, 9, 1, 0],
        ])


class OnOneAnother(EdgeCase):
    def test_told_twice(self):
        self.edges_are([[0, 0, 10, 3], [10, 3, 0, 0], [0, 0, 10, 3]], [[0, 1, 0, 0]])

    def test_side_told_in_overlapping_parts(self):
        # 0: 0,0   1: 0,10   2: 4,0   3: 6,0   4: 10,0
        self.edges_are([[0, 0, 6, 0], [10, 0, 4, 0], [10, 0, 0, 10], [0, 10, 0, 0]], [
            [0, 1, 0, 1], [0, 2, 1, 0], [1, 4, 0, 1], [2, 3, 1, 0], [3, 4, 1, 0],
        ])

    def test_boxes_that_share_a_part_of_a_side(self):
        # 0: 0,0   1: 0,10   2: 10,0   3: 10,2   4: 10,8   5: 10,10   6: 20,2   7: 20,8
        self.edges_are(box(0, 0, 10, 10) + box(10, 2, 20, 8), [
            [0, 1, 0, 1], [0, 2, 1, 0], [1, 5, 0, 1], [2, 3, 1, 0], [3, 4, 1, 2],
            [3, 6, 2, 0], [4, 5, 1, 0], [4, 7, 0, 2], [6, 7, 2, 0],
        ])


class NotWholePlaces(EdgeCase):
    def test_crossing(self):
        # 0: 0,0   1: 0,1   2: 2/3,1/3   3: 1,0   4: 2,1
        crossing = [[0, 0, 2, 1], [0, 1, 1, 0]]
        self.edges_are(crossing, [[0, 2, 0, 0], [1, 2, 0, 0], [2, 3, 0, 0], [2, 4, 0, 0]])
        self.edges_are(crossing + [[0, 0, 0, 1]], [
            [0, 1, 0, 1], [0, 2, 1, 0], [1, 2, 0, 1], [2, 3, 0, 0], [2, 4, 0, 0],
        ])
        self.edges_are(crossing + [[0, 0, 0, 1], [1, 0, 2, 1]], [
            [0, 1, 0, 1], [0, 2, 1, 0], [1, 2, 0, 1], [2, 3, 2, 0], [2, 4, 0, 2], [3, 4, 2, 0],
        ])

    def test_star_of_five_points(self):
        star = ring((0, 10), (6, -8), (-10, 3), (10, 3), (-6, -8))
        answers = all_edges_of(star)
        # The five edges of the middle face have another bounded face at their other side.
        middle = [answer for answer in answers if 0 not in answer[2:]]
        self.assertEqual((len(answers), len(middle)), (15, 5))
        self.assertEqual(len(set(middle[0][2:]).intersection(*[answer[2:] for answer in middle])), 1)

    def test_small_one_between_whole_places(self):
        # 0: 0,0   1: 1,0   2: 1,1/3   3: 1,1/2   4: 1,1   5: 2,1   6: 3,1
        self.edges_are([[0, 0, 2, 1], [0, 0, 3, 1], [1, 0, 1, 1]], [
            [0, 2, 1, 0], [0, 3, 0, 1], [1, 2, 0, 0], [2, 3, 1, 0], [2, 6, 0, 0], [3, 4, 0, 0], [3, 5, 0, 0],
        ])


class TenSegments(EdgeCase):
    def test_grid(self):
        flat = [[0, 10 * k, 40, 10 * k] for k in range(5)]
        upright = [[10 * k, 0, 10 * k, 40] for k in range(5)]
        answers = all_edges_of(flat + upright)
        self.assertEqual(len(answers), 40)
        # Vertex (10 * a, 10 * b) is 5 * a + b; the face at its right and above it is 1 + 4 * a + b.
        self.assertEqual(answers[0], [0, 1, 0, 1])
        self.assertEqual(answers[1], [0, 5, 1, 0])
        self.assertIn([12, 13, 7, 11], answers)
        self.assertIn([12, 17, 11, 10], answers)
        self.assertEqual(answers[-1], [23, 24, 16, 0])


if __name__ == "__main__":
    unittest.main()
