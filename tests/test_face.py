"""What face answers for maps that are reckoned by hand."""
import unittest

from landmap.faces import face
from shapes import all_faces_of, box, ring, turned

TRIANGLE = ring((0, 0), (10, 0), (0, 10))
WIDE = ring((0, 0), (90, 0), (0, 90))
NEST = WIDE + ring((9, 9), (50, 9), (9, 50)) + ring((12, 12), (20, 12), (12, 20))
DIAMOND = ring((-50, 0), (0, -50), (50, 0), (0, 50))


class FaceCase(unittest.TestCase):
    def faces_are(self, segments, expected):
        self.assertEqual(all_faces_of(segments), expected)
        self.assertEqual(face(len(expected), segments), [-3])
        self.assertEqual(all_faces_of(turned(segments)), expected)


class Face0(FaceCase):
    def test_no_segments(self):
        self.faces_are([], [[0, 0, 1]])

    def test_one_piece_that_goes_round_nothing(self):
        self.faces_are([[0, 0, 3, 1]], [[1, 0, 1]])
        self.faces_are([[0, 0, 10, 10], [0, 10, 10, 0]], [[1, 0, 1]])
        self.faces_are([[0, 0, 2, 1], [0, 1, 1, 0]], [[1, 0, 1]])
        self.faces_are([[-3, 7, 2, 2]] * 10, [[1, 0, 1]])

    def test_several_pieces_that_go_round_nothing(self):
        self.faces_are([[0, 0, 10, 5], [0, 1, 10, 6]], [[2, 0, 1]])
        self.faces_are([[0, k, 50, k] for k in range(10)], [[10, 0, 1]])

    def test_pieces_on_one_line(self):
        self.faces_are([[0, 0, 4, 2], [6, 3, 10, 5]], [[2, 0, 1]])

    def test_one_piece(self):
        self.faces_are(TRIANGLE, [[1, -50, 1], [1, 50, 1]])
        self.faces_are(box(-7, -3, -2, 9), [[1, -60, 1], [1, 60, 1]])

    def test_pieces_beside_one_another(self):
        self.faces_are(box(13, 0, 17, 7) + box(0, 0, 10, 10), [[2, -128, 1], [1, 100, 1], [1, 28, 1]])
        self.faces_are(TRIANGLE + [[20, 20, 30, 0], [40, 1, 40, 2]], [[3, -50, 1], [1, 50, 1]])

    def test_pieces_above_one_another(self):
        self.faces_are(box(0, 0, 10, 10) + box(2, 20, 5, 22), [[2, -106, 1], [1, 100, 1], [1, 6, 1]])

    def test_of_pieces_within_one_another_the_outmost_alone(self):
        self.faces_are(box(0, 0, 10, 10) + box(3, 3, 7, 7), [[1, -100, 1], [2, 84, 1], [1, 16, 1]])

    def test_hull_does_not_count(self):
        hoof = ring((0, 0), (30, 0), (30, 30), (20, 30), (20, 10), (10, 10), (10, 30), (0, 30))
        self.faces_are(hoof, [[1, -700, 1], [1, 700, 1]])
        self.faces_are(hoof + [[14, 20, 16, 25]], [[2, -700, 1], [1, 700, 1]])


class Numbering(FaceCase):
    def test_by_the_first_dart_not_by_the_size_or_the_place_of_a_segment(self):
        right = ring((50, 0), (60, 0), (50, 10))
        left = ring((-50, 0), (-40, 0), (-50, 40))
        middle = ring((0, 0), (10, 0), (0, 2))
        self.faces_are(right + left + middle, [[3, -260, 1], [1, 200, 1], [1, 10, 1], [1, 50, 1]])

    def test_of_as_far_left_the_lower_first(self):
        parts = box(0, 0, 10, 10) + [[0, 4, 10, 4], [0, 5, 10, 5]]
        self.faces_are(parts, [[1, -100, 1], [1, 40, 1], [1, 10, 1], [1, 50, 1]])

    def test_from_one_vertex_by_the_vertex_to_which_the_first_dart_goes(self):
        # 0: 0,0   1: 1,8   2: 2,8   3: 8,1   4: 8,2
        leaves = ring((0, 0), (8, 1), (8, 2)) + ring((0, 0), (2, 8), (1, 8))
        self.faces_are(leaves, [[1, -8, 1], [1, 4, 1], [1, 4, 1]])
        wider = ring((0, 0), (8, 0), (8, 2)) + ring((0, 0), (2, 8), (1, 8))
        self.faces_are(wider, [[1, -12, 1], [1, 4, 1], [1, 8, 1]])


class PiecesWithin(FaceCase):
    def test_a_segment(self):
        self.faces_are(TRIANGLE + [[1, 1, 2, 3]], [[1, -50, 1], [2, 50, 1]])

    def test_several(self):
        within = ring((5, 5), (15, 5), (5, 15)) + ring((30, 5), (40, 5), (30, 25)) + [[50, 3, 51, 4]]
        self.faces_are(WIDE + within, [[1, -4050, 1], [4, 3900, 1], [1, 50, 1], [1, 100, 1]])

    def test_pieces_within_pieces_within_pieces(self):
        self.faces_are(NEST, [[1, -4050, 1], [2, 6419, 2], [2, 1617, 2], [1, 32, 1]])

    def test_the_least_that_goes_round_is_told(self):
        self.faces_are(NEST + [[13, 13, 14, 14]], [[1, -4050, 1], [2, 6419, 2], [2, 1617, 2], [2, 32, 1]])
        self.faces_are(NEST + [[25, 13, 26, 14]], [[1, -4050, 1], [2, 6419, 2], [3, 1617, 2], [1, 32, 1]])
        self.faces_are(NEST + [[60, 10, 61, 11]], [[1, -4050, 1], [3, 6419, 2], [2, 1617, 2], [1, 32, 1]])
        self.faces_are(NEST + [[7, 50, 8, 50]], [[1, -4050, 1], [3, 6419, 2], [2, 1617, 2], [1, 32, 1]])
        self.faces_are(NEST + [[60, 60, 61, 61]], [[2, -4050, 1], [2, 6419, 2], [2, 1617, 2], [1, 32, 1]])

    def test_least_of_all_that_does_not_go_round_is_not_told(self):
        small = ring((-20, 0), (-19, 0), (-20, 1))
        self.faces_are(small + WIDE + [[5, 5, 6, 7]], [[2, -8101, 2], [1, 1, 2], [2, 4050, 1]])

    def test_in_one_of_two_faces_of_a_piece(self):
        walled = box(0, 0, 10, 10) + [[4, 0, 4, 10]]
        self.faces_are(walled + [[1, 1, 2, 2]], [[1, -100, 1], [2, 40, 1], [1, 60, 1]])
        self.faces_are(walled + [[5, 1, 6, 2]], [[1, -100, 1], [1, 40, 1], [2, 60, 1]])
        self.faces_are(walled + ring((5, 1), (7, 1), (5, 3)), [[1, -100, 1], [1, 40, 1], [2, 58, 1], [1, 2, 1]])

    def test_piece_of_several_faces_within(self):
        within = box(2, 2, 6, 6) + [[4, 2, 4, 6]]
        self.faces_are(box(0, 0, 10, 10) + within, [[1, -100, 1], [2, 84, 1], [1, 8, 1], [1, 8, 1]])

    def test_wide_cycle_of_a_thin_face(self):
        # The frame's face is smaller than the one within it, but its cycle goes round more.
        frame = box(0, 0, 50, 50) + box(1, 1, 49, 49)
        self.faces_are(frame + [[20, 20, 21, 21]], [[1, -2500, 1], [2, 196, 1], [2, 2304, 1]])


class SameHeight(FaceCase):
    """Pieces that begin as high as a corner or a side of a face."""

    def test_a_corner_at_the_right(self):
        self.faces_are(DIAMOND + [[1, 0, 2, 0]], [[1, -5000, 1], [2, 5000, 1]])
        self.faces_are(DIAMOND + [[-60, 0, -51, 0]], [[2, -5000, 1], [1, 5000, 1]])
        self.faces_are(DIAMOND + [[51, 0, 52, 0]], [[2, -5000, 1], [1, 5000, 1]])

    def test_the_highest_and_the_lowest_corner(self):
        self.faces_are(DIAMOND + [[-60, 50, -51, 50]], [[2, -5000, 1], [1, 5000, 1]])
        self.faces_are(DIAMOND + [[-60, -50, -51, -50]], [[2, -5000, 1], [1, 5000, 1]])

    def test_a_flat_side(self):
        self.faces_are(box(0, 0, 9, 5) + [[-5, 0, -2, 1]], [[2, -45, 1], [1, 45, 1]])
        self.faces_are(box(0, 0, 9, 5) + [[-5, 5, -2, 1]], [[2, -45, 1], [1, 45, 1]])

    def test_the_tip_of_a_notch(self):
        from_above = ring((0, 0), (40, 0), (40, 20), (20, 10), (0, 20))
        self.faces_are(from_above + [[5, 10, 6, 10]], [[1, -600, 1], [2, 600, 1]])
        from_below = ring((0, 0), (20, 10), (40, 0), (40, 20), (0, 20))
        self.faces_are(from_below + [[5, 10, 6, 10]], [[1, -600, 1], [2, 600, 1]])

    def test_a_dangling_edge(self):
        dangling = box(0, 0, 20, 20) + [[20, 10, 10, 10], [10, 10, 10, 5]]
        self.faces_are(dangling + [[5, 10, 6, 9]], [[1, -400, 1], [2, 400, 1]])
        self.faces_are(dangling + [[5, 7, 6, 8]], [[1, -400, 1], [2, 400, 1]])

    def test_a_corner_of_another_piece_within(self):
        inner = ring((20, 20), (30, 10), (30, 30))
        self.faces_are(WIDE + inner + [[5, 20, 6, 20]], [[1, -4050, 1], [3, 3950, 1], [1, 100, 1]])


class TouchingItself(FaceCase):
    def test_triangle_in_a_corner_of_another(self):
        corner = ring((0, 0), (30, 0), (0, 30)) + ring((0, 0), (10, 5), (5, 10))
        self.faces_are(corner, [[1, -450, 1], [1, 825, 2], [1, 75, 2]])
        self.faces_are(corner + [[5, 5, 6, 6]], [[1, -450, 1], [1, 825, 2], [2, 75, 2]])
        self.faces_are(corner + [[1, 20, 2, 20]], [[1, -450, 1], [2, 825, 2], [1, 75, 2]])
        self.faces_are(corner + [[20, 1, 20, 2]], [[1, -450, 1], [2, 825, 2], [1, 75, 2]])

    def test_triangle_touching_amid_a_side_from_within(self):
        touching = ring((0, 0), (30, 0), (0, 30)) + ring((10, 0), (12, 5), (8, 5))
        self.faces_are(touching, [[1, -450, 1], [1, 440, 1], [1, 10, 1]])
        self.faces_are(touching + [[10, 3, 10, 4]], [[1, -450, 1], [1, 440, 1], [2, 10, 1]])
        self.faces_are(touching + [[2, 3, 2, 4]], [[1, -450, 1], [2, 440, 1], [1, 10, 1]])

    def test_triangle_on_a_stalk_within(self):
        stalk = [[0, 0, 5, 5]] + ring((5, 5), (10, 5), (10, 10))
        self.faces_are(WIDE + stalk, [[1, -4050, 1], [1, 8075, 2], [1, 25, 2]])
        self.faces_are(WIDE + stalk + [[9, 6, 9, 7]], [[1, -4050, 1], [1, 8075, 2], [2, 25, 2]])
        self.faces_are(WIDE + stalk + [[3, 4, 3, 5]], [[1, -4050, 1], [2, 8075, 2], [1, 25, 2]])


class FirstVertexOnAFace(FaceCase):
    """Cycles that aren't above 0 and begin on a face's own cycle, or touch it, are not within that face."""

    def test_first_vertex_amid_the_height_of_a_face(self):
        self.faces_are(DIAMOND, [[1, -5000, 1], [1, 5000, 1]])
        self.faces_are(ring((0, 0), (10, -10), (30, 20)), [[1, -250, 1], [1, 250, 1]])

    def test_such_a_one_within_another_face(self):
        inner = ring((10, 20), (20, 10), (30, 20), (20, 30))
        self.faces_are(WIDE + inner, [[1, -4050, 1], [2, 3850, 1], [1, 200, 1]])

    def test_first_vertex_on_two_faces(self):
        self.faces_are(DIAMOND + [[-50, 0, 50, 0]], [[1, -5000, 1], [1, 2500, 1], [1, 2500, 1]])

    def test_dangling_outward_from_the_first_vertex(self):
        self.faces_are(DIAMOND + [[-60, 0, -50, 0]], [[1, -5000, 1], [1, 5000, 1]])

    def test_dangling_inward_from_the_first_vertex(self):
        self.faces_are(DIAMOND + [[-40, 0, -50, 0]], [[1, -5000, 1], [1, 5000, 1]])

    def test_touching_in_one_vertex_from_without(self):
        self.faces_are(box(0, 0, 10, 10) + box(10, 10, 20, 20), [[1, -200, 1], [1, 100, 1], [1, 100, 1]])
        self.faces_are(DIAMOND + ring((50, 0), (60, -10), (60, 10)), [[1, -5100, 1], [1, 5000, 1], [1, 100, 1]])
        self.faces_are(DIAMOND + ring((-50, 0), (-60, 10), (-60, -10)), [[1, -5100, 1], [1, 100, 1], [1, 5000, 1]])

    def test_such_a_pair_within_another_face(self):
        pair = ring((10, 20), (20, 10), (20, 30)) + ring((20, 10), (30, 10), (20, 5))
        self.faces_are(WIDE + pair, [[1, -4050, 1], [2, 3925, 1], [1, 100, 1], [1, 25, 1]])


class Fractions(FaceCase):
    def test_halves(self):
        self.faces_are(ring((0, 0), (1, 0), (0, 1)), [[1, -1, 2], [1, 1, 2]])
        self.faces_are(ring((-9, -9), (-8, -9), (-9, -6)), [[1, -3, 2], [1, 3, 2]])

    def test_thirds(self):
        # The segments cross at 2/3,1/3.
        bow = [[0, 0, 2, 1], [0, 1, 1, 0], [0, 0, 0, 1], [1, 0, 2, 1]]
        self.faces_are(bow, [[1, -2, 3], [1, 1, 3], [1, 1, 3]])

    def test_lowest_terms(self):
        self.faces_are(box(0, 0, 3, 3) + [[0, 0, 3, 3], [0, 3, 3, 0]], [[1, -9, 1]] + [[1, 9, 4]] * 4)
        self.faces_are(box(0, 0, 4, 4) + [[0, 0, 4, 4], [0, 4, 4, 0]], [[1, -16, 1]] + [[1, 4, 1]] * 4)

    def test_different_ones_in_one_map(self):
        # Up from 0,0 the lines are as high as 1/3, 1/2 and 1 where the upright one stands.
        fan = [[0, 0, 3, 1], [0, 0, 2, 1], [0, 0, 1, 1], [1, 0, 1, 2]]
        self.faces_are(fan, [[1, -1, 3], [1, 1, 12], [1, 1, 4]])

    def test_large_terms(self):
        segments = [[-100, -100, 100, 99], [-100, 100, 99, -100], [-100, -100, -100, 100]]
        self.faces_are(segments, [[1, -796000000, 79601], [1, 796000000, 79601]])

    def test_whole_land(self):
        self.faces_are(box(-100, -100, 100, 100), [[1, -40000, 1], [1, 40000, 1]])

    def test_piece_within_takes_away_a_fraction(self):
        within = [[1, 1, 3, 2], [1, 2, 2, 1], [1, 1, 1, 2]]
        # The segments within cross at 5/3,4/3.
        self.faces_are(WIDE + within, [[1, -4050, 1], [2, 12149, 3], [1, 1, 3]])


class OnOneAnother(FaceCase):
    def test_each_side_told_twice(self):
        self.faces_are(TRIANGLE + turned(TRIANGLE), [[1, -50, 1], [1, 50, 1]])

    def test_boxes_that_share_a_part_of_a_side(self):
        self.faces_are(box(0, 0, 10, 10) + box(10, 2, 20, 8), [[1, -160, 1], [1, 100, 1], [1, 60, 1]])

    def test_boxes_that_cross(self):
        self.faces_are(box(0, 0, 10, 10) + box(5, 5, 15, 15), [[1, -175, 1], [1, 75, 1], [1, 25, 1], [1, 75, 1]])


class TenSegments(FaceCase):
    def test_grid(self):
        flat = [[-5, 10 * k, 45, 10 * k] for k in range(5)]
        upright = [[10 * k, -5, 10 * k, 45] for k in range(5)]
        self.faces_are(flat + upright, [[1, -1600, 1]] + [[1, 100, 1]] * 16)

    def test_each_crosses_each(self):
        answers = all_faces_of([[-100, -90 + k * k, 100, 90 - 19 * k] for k in range(10)])
        self.assertEqual([answer[0] for answer in answers], [1] * 37)
        self.assertLess(answers[0][1], 0)
        for answer in answers[1:]:
            self.assertGreater(answer[1], 0)
        for answer in answers:
            self.assertGreater(answer[2], 0)


if __name__ == "__main__":
    unittest.main()
