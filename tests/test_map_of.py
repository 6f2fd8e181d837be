"""What map_of answers for maps that are counted by hand."""
import unittest

from landmap.faces import map_of
from shapes import box, ring


class MapCase(unittest.TestCase):
    def counts(self, segments, vertices, edges, faces, pieces):
        self.assertEqual(map_of(segments), [vertices, edges, faces, pieces])


class FewSegments(MapCase):
    def test_none_leave_the_face_without_end(self):
        self.counts([], 0, 0, 1, 0)

    def test_one(self):
        self.counts([[0, 0, 3, 1]], 2, 1, 1, 1)
        self.counts([[100, -100, 100, 100]], 2, 1, 1, 1)


class Meeting(MapCase):
    def test_crossing(self):
        self.counts([[0, 0, 10, 10], [0, 10, 10, 0]], 5, 4, 1, 1)

    def test_crossing_at_no_whole_place(self):
        self.counts([[0, 0, 2, 1], [0, 1, 1, 0]], 5, 4, 1, 1)

    def test_end_on_end(self):
        self.counts([[0, 0, 10, 0], [10, 0, 10, 10]], 3, 2, 1, 1)

    def test_end_amid_another(self):
        self.counts([[0, 0, 10, 0], [5, 0, 5, 5]], 4, 3, 1, 1)
        self.counts([[5, 5, 5, 0], [10, 0, 0, 0]], 4, 3, 1, 1)

    def test_ends_at_both_sides_amid_another(self):
        self.counts([[0, 0, 10, 0], [5, 0, 5, 5], [5, 0, 4, -5]], 5, 4, 1, 1)

    def test_three_through_one_point(self):
        self.counts([[-1, 0, 1, 0], [0, -1, 0, 1], [-1, -1, 1, 1]], 7, 6, 1, 1)

    def test_three_through_one_point_that_is_not_whole(self):
        self.counts([[0, 0, 1, 1], [0, 1, 1, 0], [-1, -1, 3, 3], [0, 2, 1, -1]], 9, 8, 1, 1)

    def test_lines_would_meet_beyond_an_end(self):
        self.counts([[0, 0, 10, 0], [5, 1, 5, 5]], 4, 2, 1, 2)
        self.counts([[5, 1, 5, 5], [0, 0, 10, 0]], 4, 2, 1, 2)
        self.counts([[0, 0, 2, 0], [3, -1, 3, 1]], 4, 2, 1, 2)

    def test_just_missed(self):
        self.counts([[0, 0, 100, 99], [50, 50, 0, 100]], 4, 2, 1, 2)
        self.counts([[0, 0, 100, 99], [50, 49, 0, 100]], 5, 4, 1, 1)

    def test_parallel(self):
        self.counts([[0, 0, 10, 5], [0, 1, 10, 6]], 4, 2, 1, 2)


class OnOneLine(MapCase):
    def test_told_twice(self):
        self.counts([[0, 0, 10, 3], [0, 0, 10, 3]], 2, 1, 1, 1)

    def test_turned_round(self):
        self.counts([[0, 0, 10, 3], [10, 3, 0, 0]], 2, 1, 1, 1)

    def test_in_part(self):
        self.counts([[0, 0, 6, 3], [4, 2, 10, 5]], 4, 3, 1, 1)
        self.counts([[6, 3, 0, 0], [4, 2, 10, 5]], 4, 3, 1, 1)
        self.counts([[0, 0, 0, 6], [0, 10, 0, 4]], 4, 3, 1, 1)

    def test_one_wholly_on_the_other(self):
        self.counts([[0, 0, 10, 0], [3, 0, 5, 0]], 4, 3, 1, 1)
        self.counts([[5, 0, 3, 0], [0, 0, 10, 0]], 4, 3, 1, 1)
        self.counts([[0, 0, 10, 0], [0, 0, 5, 0]], 3, 2, 1, 1)

    def test_end_to_end(self):
        self.counts([[0, 0, 5, 0], [5, 0, 10, 0]], 3, 2, 1, 1)

    def test_apart(self):
        self.counts([[0, 0, 4, 2], [6, 3, 10, 5]], 4, 2, 1, 2)
        self.counts([[0, 0, 0, 4], [0, 6, 0, 10]], 4, 2, 1, 2)

    def test_crossed_where_two_lie_on_one_another(self):
        self.counts([[0, 0, 6, 0], [4, 0, 10, 0], [5, -1, 5, 1]], 7, 6, 1, 1)

    def test_side_told_in_overlapping_parts(self):
        parts = [[0, 0, 6, 0], [10, 0, 4, 0], [10, 0, 0, 10], [0, 10, 0, 0]]
        self.counts(parts, 5, 5, 2, 1)


class FacesAndPieces(MapCase):
    def test_triangle(self):
        self.counts(ring((0, 0), (10, 0), (0, 10)), 3, 3, 2, 1)

    def test_triangle_the_other_way_round(self):
        self.counts(ring((0, 10), (10, 0), (0, 0)), 3, 3, 2, 1)

    def test_least_triangle_of_whole_places(self):
        self.counts(ring((0, 0), (1, 0), (0, 1)), 3, 3, 2, 1)

    def test_triangle_left_and_below_of_the_middle(self):
        self.counts(ring((-90, -80), (-95, -85), (-91, -99)), 3, 3, 2, 1)

    def test_dangling_inward(self):
        self.counts(ring((0, 0), (10, 0), (0, 10)) + [[0, 0, 2, 2]], 4, 4, 2, 1)

    def test_dangling_outward(self):
        self.counts(ring((0, 0), (10, 0), (0, 10)) + [[0, 0, -2, -2]], 4, 4, 2, 1)

    def test_dangling_both_ways(self):
        self.counts(ring((0, 0), (10, 0), (0, 10)) + [[-3, 2, 3, 2]], 6, 6, 2, 1)

    def test_box_with_both_diagonals(self):
        self.counts(box(0, 0, 3, 3) + [[0, 0, 3, 3], [0, 3, 3, 0]], 5, 8, 5, 1)

    def test_tree_has_no_face_but_the_one_without_end(self):
        self.counts([[0, 0, 9, 0], [3, 0, 3, 5], [6, 0, 6, -5], [3, 4, 7, 4]], 8, 7, 1, 1)

    def test_segment_within_a_face(self):
        self.counts(box(0, 0, 10, 10) + [[3, 3, 4, 7]], 6, 5, 2, 2)

    def test_box_within_a_box(self):
        self.counts(box(0, 0, 10, 10) + box(3, 3, 7, 7), 8, 8, 3, 2)

    def test_boxes_beside_one_another(self):
        self.counts(box(0, 0, 10, 10) + box(13, 0, 17, 7), 8, 8, 3, 2)

    def test_boxes_touching_in_one_corner(self):
        self.counts(box(0, 0, 10, 10) + box(10, 10, 20, 20), 7, 8, 3, 1)

    def test_triangle_in_a_corner_of_another(self):
        inner = ring((0, 0), (10, 5), (5, 10))
        self.counts(ring((0, 0), (30, 0), (0, 30)) + inner, 5, 6, 3, 1)

    def test_triangle_touching_amid_a_side_from_within(self):
        inner = ring((10, 0), (12, 5), (8, 5))
        self.counts(ring((0, 0), (30, 0), (0, 30)) + inner, 6, 7, 3, 1)

    def test_triangle_touching_amid_a_side_from_without(self):
        outer = ring((10, 0), (12, -5), (8, -5))
        self.counts(ring((0, 0), (30, 0), (0, 30)) + outer, 6, 7, 3, 1)

    def test_boxes_that_share_a_side(self):
        self.counts(box(0, 0, 10, 10) + box(10, 0, 20, 10), 6, 7, 3, 1)

    def test_boxes_that_cross(self):
        self.counts(box(0, 0, 10, 10) + box(5, 5, 15, 15), 10, 12, 4, 1)

    def test_three_triangles_within_one_another(self):
        nested = ring((0, 0), (90, 0), (0, 90)) + ring((9, 9), (50, 9), (9, 50)) + ring((12, 12), (20, 12), (12, 20))
        self.counts(nested, 9, 9, 4, 3)

    def test_star_of_five_points(self):
        star = ring((0, 10), (6, -8), (-10, 3), (10, 3), (-6, -8))
        self.counts(star, 10, 15, 7, 1)

    def test_tiny_face_between_whole_places(self):
        self.counts([[0, 0, 100, 99], [0, 0, 99, 98], [98, 100, 99, 0]], 7, 7, 2, 1)


class TenSegments(MapCase):
    def test_grid(self):
        flat = [[-5, 10 * k, 45, 10 * k] for k in range(5)]
        upright = [[10 * k, 45, 10 * k, -5] for k in range(5)]
        self.counts(flat + upright, 45, 60, 17, 1)

    def test_apart(self):
        self.counts([[0, k, 50, k] for k in range(10)], 20, 10, 1, 10)

    def test_each_crosses_each(self):
        self.counts([[-100, -90 + k * k, 100, 90 - 19 * k] for k in range(10)], 65, 100, 37, 1)

    def test_all_through_one_point(self):
        self.counts([[-50, -k, 50, k] for k in range(10)], 21, 20, 1, 1)

    def test_one_ten_times(self):
        self.counts([[-3, 7, 2, 2]] * 5 + [[2, 2, -3, 7]] * 5, 2, 1, 1, 1)


if __name__ == "__main__":
    unittest.main()
