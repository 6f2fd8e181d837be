"""What locate answers for maps that are reckoned by hand."""
import unittest

from landmap.faces import locate
from shapes import box, ring, turned

TRIANGLE = ring((0, 0), (10, 0), (0, 10))
WIDE = ring((0, 0), (90, 0), (0, 90))
NEST = WIDE + ring((9, 9), (50, 9), (9, 50)) + ring((12, 12), (20, 12), (12, 20))
DIAMOND = ring((-50, 0), (0, -50), (50, 0), (0, 50))
CROSSING = [[0, 0, 2, 1], [0, 1, 1, 0]]
HOOF = ring((0, 0), (30, 0), (30, 30), (20, 30), (20, 10), (10, 10), (10, 30), (0, 30))
CORNER = ring((0, 0), (30, 0), (0, 30)) + ring((0, 0), (10, 5), (5, 10))


class LocateCase(unittest.TestCase):
    def lies(self, segments, point, answer):
        self.assertEqual(locate(point, segments), answer, point)
        self.assertEqual(locate(point, turned(segments)), answer, point)

    def at_vertex(self, segments, number, *point):
        self.lies(segments, list(point), [0, number])

    def on_edge(self, segments, number, *point):
        self.lies(segments, list(point), [1, number])

    def in_face(self, segments, number, *point):
        self.lies(segments, list(point), [2, number])

    def whole_in_face(self, segments, number, *places):
        for across, up in places:
            self.in_face(segments, number, across, 1, up, 1)


class NoSegments(LocateCase):
    def test_all_is_face_0(self):
        self.whole_in_face([], 0, (0, 0), (5, -7), (100000, -100000))
        self.in_face([], 0, 1, 3, -2, 7)


class AtVertices(LocateCase):
    def test_ends(self):
        # 0: 0,0   1: 0,10   2: 10,0
        self.at_vertex(TRIANGLE, 0, 0, 1, 0, 1)
        self.at_vertex(TRIANGLE, 1, 0, 1, 10, 1)
        self.at_vertex(TRIANGLE, 2, 10, 1, 0, 1)
        self.at_vertex([[-7, 3, 5, -2]], 0, -7, 1, 3, 1)
        self.at_vertex([[-7, 3, 5, -2]], 1, 5, 1, -2, 1)

    def test_crossing_that_is_not_whole(self):
        self.at_vertex(CROSSING, 2, 2, 3, 1, 3)

    def test_end_amid_another(self):
        # 0: 0,0   1: 5,0   2: 5,5   3: 10,0
        self.at_vertex([[0, 0, 10, 0], [5, 0, 5, 5]], 1, 5, 1, 0, 1)

    def test_end_of_one_that_lies_on_another(self):
        # 0: 0,0   1: 2,1   2: 6,3   3: 8,4
        self.at_vertex([[0, 0, 8, 4], [2, 1, 6, 3]], 2, 6, 1, 3, 1)

    def test_just_beside(self):
        for across, up in ((1, 0), (-1, 0), (0, 1), (0, -1)):
            self.assertEqual(locate([across, 1000, up, 1000], [[0, 0, 3, 5]]), [2, 0])
        self.in_face(CROSSING, 0, 667, 1000, 1, 3)
        self.in_face(CROSSING, 0, 2, 3, 333, 1000)


class OnEdges(LocateCase):
    def test_slanting_upright_and_level(self):
        # Edges: 0 is from 0,0 to 0,10; 1 from 0,0 to 10,0; 2 from 0,10 to 10,0.
        self.on_edge(TRIANGLE, 0, 0, 1, 5, 1)
        self.on_edge(TRIANGLE, 1, 7, 1, 0, 1)
        self.on_edge(TRIANGLE, 2, 4, 1, 6, 1)
        self.on_edge(TRIANGLE, 2, 1, 3, 29, 3)

    def test_just_within_the_ends(self):
        self.on_edge(TRIANGLE, 0, 0, 1, 1, 1000)
        self.on_edge(TRIANGLE, 0, 0, 1, 9999, 1000)
        self.on_edge(TRIANGLE, 2, 1, 1000, 9999, 1000)
        self.on_edge(TRIANGLE, 2, 9999, 1000, 1, 1000)

    def test_just_beside(self):
        self.in_face(TRIANGLE, 1, 1, 1000, 5, 1)
        self.in_face(TRIANGLE, 0, -1, 1000, 5, 1)
        self.in_face(TRIANGLE, 1, 5, 1, 1, 1000)
        self.in_face(TRIANGLE, 0, 5, 1, -1, 1000)
        self.in_face(TRIANGLE, 1, 4999, 1000, 5, 1)
        self.in_face(TRIANGLE, 0, 5001, 1000, 5, 1)
        self.in_face(TRIANGLE, 1, 5, 1, 4999, 1000)
        self.in_face(TRIANGLE, 0, 5, 1, 5001, 1000)

    def test_very_little_beside(self):
        # Along the side from 0,0 to 100,99 what is told up is 99/100 of what is told across.
        thin = ring((0, 0), (100, 99), (100, 100))
        # 0: 0,0   1: 100,99   2: 100,100
        self.on_edge(thin, 0, 500, 99, 5, 1)
        self.in_face(thin, 0, 500, 99, 4999, 1000)
        self.in_face(thin, 1, 500, 99, 5001, 1000)
        self.in_face(thin, 0, 506, 1000, 500, 999)
        self.in_face(thin, 1, 505, 1000, 500, 999)

    def test_parts_of_a_cut_segment(self):
        # 0: 0,0   1: 0,1   2: 2/3,1/3   3: 1,0   4: 2,1; edges 0-2, 1-2, 2-3, 2-4.
        self.on_edge(CROSSING, 0, 1, 2, 1, 4)
        self.on_edge(CROSSING, 1, 1, 2, 1, 2)
        self.on_edge(CROSSING, 2, 3, 4, 1, 4)
        self.on_edge(CROSSING, 3, 1, 1, 1, 2)

    def test_where_segments_lie_on_one_another(self):
        # 0: 0,0   1: 4,2   2: 6,3   3: 10,5
        overlapping = [[0, 0, 6, 3], [10, 5, 4, 2]]
        self.on_edge(overlapping, 0, 1, 1, 1, 2)
        self.on_edge(overlapping, 1, 5, 1, 5, 2)
        self.on_edge(overlapping, 2, 7, 1, 7, 2)

    def test_dangling(self):
        # 0: 0,0   1: 0,10   2: 2,2   3: 10,0
        self.on_edge(TRIANGLE + [[0, 0, 2, 2]], 1, 1, 1, 1, 1)

    def test_border_of_two_faces(self):
        # 0: 0,0   1: 0,10   2: 4,0   3: 4,10   4: 10,0   5: 10,10
        self.on_edge(box(0, 0, 10, 10) + [[4, 0, 4, 10]], 3, 4, 1, 7, 1)

    def test_in_order_of_vertices_not_of_segments(self):
        # 0: 0,0   1: 1,5   2: 2,0   3: 3,5
        segments = [[2, 0, 3, 5], [1, 5, 2, 0], [0, 0, 1, 5]]
        self.on_edge(segments, 0, 1, 2, 5, 2)
        self.on_edge(segments, 1, 3, 2, 5, 2)
        self.on_edge(segments, 2, 5, 2, 5, 2)


class BeyondAnEnd(LocateCase):
    def test_slanting(self):
        for segment in ([0, 0, 4, 4], [4, 4, 0, 0]):
            self.in_face([segment], 0, 4001, 1000, 4001, 1000)
            self.in_face([segment], 0, -1, 1000, -1, 1000)
            self.whole_in_face([segment], 0, (5, 5), (90, 90), (-1, -1), (-90, -90))
        self.whole_in_face([[0, 4, 4, 0]], 0, (5, -1), (-1, 5))

    def test_upright(self):
        self.whole_in_face([[3, 0, 3, 5]], 0, (3, 6), (3, -1), (3, 99), (3, -99))
        self.in_face([[3, 0, 3, 5]], 0, 3, 1, 5001, 1000)
        self.in_face([[3, 0, 3, 5]], 0, 3, 1, -1, 1000)

    def test_level(self):
        self.whole_in_face([[0, 3, 5, 3]], 0, (6, 3), (-1, 3), (99, 3), (-99, 3))
        self.in_face([[0, 3, 5, 3]], 0, 5001, 1000, 3, 1)
        self.in_face([[0, 3, 5, 3]], 0, -1, 1000, 3, 1)

    def test_between_two_on_one_line(self):
        self.whole_in_face([[0, 0, 4, 2], [6, 3, 10, 5]], 0, (-2, -1), (12, 6))
        self.in_face([[0, 0, 4, 2], [6, 3, 10, 5]], 0, 5, 1, 5, 2)

    def test_within_a_face(self):
        self.whole_in_face(box(0, 0, 20, 20) + [[0, 0, 5, 5]], 1, (6, 6), (19, 19))
        self.whole_in_face(box(0, 0, 20, 20) + [[0, 10, 5, 10]], 1, (6, 10), (19, 10))


class InFaces(LocateCase):
    def test_within_and_without(self):
        self.whole_in_face(TRIANGLE, 1, (1, 1), (1, 8), (8, 1), (4, 5))
        self.whole_in_face(TRIANGLE, 0, (-1, -1), (9, 9), (-1, 5), (5, -1), (6, 5), (11, 0), (0, 11))

    def test_far_away(self):
        self.whole_in_face(TRIANGLE, 0, (100000, 1), (-100000, 1), (1, 100000), (1, -100000), (100000, -100000))

    def test_beside_one_another(self):
        pair = box(20, 0, 30, 9) + box(0, 0, 9, 9)
        self.whole_in_face(pair, 1, (1, 1), (8, 8))
        self.whole_in_face(pair, 2, (21, 1), (29, 8))
        self.whole_in_face(pair, 0, (15, 5), (-1, 5), (31, 5), (5, 10))

    def test_parts_of_a_box(self):
        quarters = box(0, 0, 4, 4) + [[0, 0, 4, 4], [0, 4, 4, 0]]
        # Face 1 is at the left, 2 below, 3 above, 4 at the right.
        self.whole_in_face(quarters, 1, (1, 2))
        self.whole_in_face(quarters, 2, (2, 1))
        self.whole_in_face(quarters, 3, (2, 3))
        self.whole_in_face(quarters, 4, (3, 2))

    def test_within_one_another(self):
        self.whole_in_face(NEST, 0, (60, 60), (-1, 1))
        self.whole_in_face(NEST, 1, (1, 1), (8, 12), (60, 10), (30, 30), (12, 8))
        self.whole_in_face(NEST, 2, (10, 10), (11, 15), (25, 13), (17, 17))
        self.whole_in_face(NEST, 3, (13, 13), (15, 15), (13, 18))

    def test_least_area_of_the_cycles_not_of_the_faces(self):
        # The frame's face is smaller than the one within it, but its cycle goes round more.
        frame = box(0, 0, 50, 50) + box(1, 1, 49, 49)
        self.whole_in_face(frame, 2, (25, 25), (2, 48))
        self.in_face(frame, 1, 1, 2, 1, 2)
        self.in_face(frame, 1, 99, 2, 25, 1)

    def test_in_a_hole(self):
        holed = box(0, 0, 20, 20) + box(3, 3, 7, 7)
        self.whole_in_face(holed, 2, (4, 4), (5, 6))
        self.whole_in_face(holed, 1, (2, 5), (8, 5), (5, 2), (5, 8))

    def test_beside_what_dangles_or_lies_within(self):
        crowded = box(0, 0, 20, 20) + [[0, 0, 5, 5], [10, 4, 12, 9]]
        self.whole_in_face(crowded, 1, (2, 3), (3, 2), (11, 5), (10, 8), (19, 19))

    def test_in_a_notch(self):
        self.whole_in_face(HOOF, 0, (15, 20), (15, 11), (15, 30), (15, 40))
        self.whole_in_face(HOOF, 1, (5, 20), (25, 20), (15, 5))

    def test_in_a_notch_that_is_shut(self):
        shut = HOOF + [[10, 30, 20, 30]]
        self.whole_in_face(shut, 2, (15, 20), (15, 11))
        self.whole_in_face(shut, 1, (5, 20), (25, 20), (15, 5))
        self.whole_in_face(shut, 0, (15, 31), (15, -1))


class TouchingItself(LocateCase):
    def test_pocket_in_a_corner(self):
        self.whole_in_face(CORNER, 2, (5, 5), (6, 8), (7, 7))
        self.whole_in_face(CORNER, 1, (1, 20), (20, 1), (10, 10), (8, 8), (1, 3), (3, 1))

    def test_pocket_wider_than_what_is_round_it(self):
        # What the outer triangle's own cycle goes round is 117/2, and the pocket is 783/2.
        wide = ring((0, 0), (30, 0), (0, 30)) + ring((0, 0), (28, 1), (1, 28))
        self.whole_in_face(wide, 2, (1, 1), (5, 5), (14, 14), (2, 20))
        self.in_face(wide, 1, 28, 1, 3, 2)
        self.in_face(wide, 1, 1, 2, 20, 1)
        self.in_face(wide, 1, 20, 1, 1, 2)
        self.in_face(wide, 1, 59, 4, 59, 4)

    def test_pocket_amid_a_side(self):
        touching = ring((0, 0), (30, 0), (0, 30)) + ring((10, 0), (28, 1), (1, 28))
        # 0: 0,0   1: 0,30   2: 1,28   3: 10,0   4: 28,1   5: 30,0; the pocket's first dart goes from 2.
        self.whole_in_face(touching, 2, (10, 1), (10, 10), (5, 20))
        self.whole_in_face(touching, 1, (1, 1), (5, 5), (9, 1))
        self.in_face(touching, 1, 20, 1, 1, 2)

    def test_pocket_on_a_stalk(self):
        stalk = WIDE + [[0, 0, 5, 5]] + ring((5, 5), (10, 5), (10, 10))
        self.whole_in_face(stalk, 2, (9, 6), (8, 7))
        self.whole_in_face(stalk, 1, (3, 4), (11, 7), (7, 8))

    def test_cycle_of_face_0(self):
        touching = box(0, 0, 10, 10) + box(10, 10, 20, 20)
        self.whole_in_face(touching, 1, (9, 9), (1, 1))
        self.whole_in_face(touching, 2, (11, 11), (19, 19))
        self.whole_in_face(touching, 0, (9, 11), (11, 9), (5, 15), (15, 5))


class SameHeight(LocateCase):
    def test_as_a_corner_at_the_side(self):
        self.whole_in_face(DIAMOND, 1, (0, 0), (1, 0), (-49, 0), (49, 0))
        self.whole_in_face(DIAMOND, 0, (-51, 0), (51, 0), (-99, 0), (99, 0))

    def test_as_the_highest_and_the_lowest_corner(self):
        self.whole_in_face(DIAMOND, 0, (-10, 50), (10, 50), (-10, -50), (10, -50), (-99, 50), (-99, -50))

    def test_as_level_edges(self):
        self.whole_in_face(box(0, 0, 9, 5), 0, (-5, 0), (-5, 5), (10, 0), (10, 5))
        self.whole_in_face(HOOF, 1, (5, 10), (25, 10))
        self.whole_in_face(HOOF, 0, (-5, 10), (35, 10), (-5, 0), (-5, 30), (15, 30), (35, 30))

    def test_as_a_step(self):
        stairs = ring((0, 0), (30, 0), (30, 10), (20, 10), (20, 20), (0, 20))
        self.whole_in_face(stairs, 1, (5, 10), (19, 10))
        self.whole_in_face(stairs, 0, (-5, 10), (31, 10))
        upside_down = ring((0, 0), (20, 0), (20, 10), (30, 10), (30, 20), (0, 20))
        self.whole_in_face(upside_down, 1, (5, 10), (19, 10))
        self.whole_in_face(upside_down, 0, (-5, 10), (31, 10))

    def test_as_the_tip_of_a_notch(self):
        from_above = ring((0, 0), (40, 0), (40, 20), (20, 10), (0, 20))
        from_below = ring((0, 0), (20, 10), (40, 0), (40, 20), (0, 20))
        for notched in (from_above, from_below):
            self.whole_in_face(notched, 1, (5, 10), (35, 10))
            self.whole_in_face(notched, 0, (-5, 10), (45, 10))

    def test_as_what_dangles(self):
        dangling = box(0, 0, 20, 20) + [[20, 10, 10, 10], [10, 10, 10, 5]]
        self.whole_in_face(dangling, 1, (5, 10), (5, 7), (5, 5), (15, 7), (15, 5))

    def test_as_a_crossing_that_is_not_whole(self):
        # The diagonals cross at 3/2,3/2; the faces are at the left, below, above, at the right.
        quarters = box(0, 0, 3, 3) + [[0, 0, 3, 3], [0, 3, 3, 0]]
        self.in_face(quarters, 1, 1, 1, 3, 2)
        self.in_face(quarters, 4, 2, 1, 3, 2)
        self.in_face(quarters, 2, 3, 2, 1, 1)
        self.in_face(quarters, 3, 3, 2, 2, 1)
        self.in_face(quarters, 0, -1, 1, 3, 2)


class HowPointsAreTold(LocateCase):
    def test_not_in_lowest_terms(self):
        self.at_vertex(CROSSING, 2, 4, 6, 3, 9)
        self.at_vertex(CROSSING, 2, 666, 999, 2, 6)
        self.at_vertex(TRIANGLE, 0, 0, 1000, 0, 7)
        self.at_vertex(TRIANGLE, 2, 10000, 1000, 0, 2)
        self.on_edge(TRIANGLE, 2, 8, 2, 60, 10)
        self.in_face(TRIANGLE, 1, 8, 2, 10, 2)
        self.in_face(TRIANGLE, 0, 12, 2, 15, 3)

    def test_different_numbers_below(self):
        self.on_edge([[0, 0, 6, 4]], 0, 1, 2, 1, 3)
        self.in_face([[0, 0, 6, 4]], 0, 1, 3, 1, 2)

    def test_across_comes_first(self):
        self.in_face(box(0, 0, 20, 5), 1, 10, 1, 3, 1)
        self.in_face(box(0, 0, 20, 5), 0, 3, 1, 10, 1)

    def test_bounds_of_what_is_above_and_below(self):
        land = box(-100, -100, 100, 100)
        # 0: -100,-100   1: -100,100   2: 100,-100   3: 100,100
        self.at_vertex(land, 0, -100000, 1000, -100000, 1000)
        self.at_vertex(land, 3, 100000, 1000, 100000, 1000)
        self.on_edge(land, 3, 100000, 1000, 0, 1)
        self.on_edge(land, 0, -100, 1, 99999, 1000)
        self.in_face(land, 1, 99999, 1000, -99999, 1000)
        self.in_face(land, 0, 100000, 999, 0, 1)
        self.in_face(land, 0, 0, 1, -100000, 999)
        self.whole_in_face(land, 0, (100000, 0), (-100000, 0), (0, 100000), (0, -100000))

    def test_least_fractions(self):
        self.in_face(box(0, 0, 1, 1), 1, 1, 1000, 999, 1000)
        self.in_face(box(0, 0, 1, 1), 0, -1, 1000, 999, 1000)
        self.in_face(box(0, 0, 1, 1), 0, 1, 1000, 1001, 1000)


class LeastLengths(LocateCase):
    """Points a step of 1 beside edges of a step of 1."""

    def test_beside_the_least_triangles(self):
        for triangle in (ring((0, 0), (1, 0), (0, 1)), ring((0, 0), (1, 1), (0, 1)), ring((0, 0), (1, 0), (1, 1))):
            self.whole_in_face(triangle, 0, (-1, 0), (-1, 1), (2, 0), (2, 1), (0, -1), (1, -1), (0, 2), (1, 2))

    def test_amid_a_box_told_in_steps(self):
        level = [[across, up, across + 1, up] for across in (0, 1) for up in (0, 2)]
        upright = [[across, up, across, up + 1] for across in (0, 2) for up in (0, 1)]
        self.whole_in_face(level + upright, 1, (1, 1))
        self.whole_in_face(level + upright, 0, (-1, 1), (3, 1), (1, -1), (1, 3))


class TenSegments(LocateCase):
    def test_grid(self):
        flat = [[-5, 10 * k, 45, 10 * k] for k in range(5)]
        upright = [[10 * k, -5, 10 * k, 45] for k in range(5)]
        for a in range(4):
            for b in range(4):
                self.in_face(flat + upright, 1 + 4 * a + b, 20 * a + 3, 2, 30 * b + 29, 3)
        self.in_face(flat + upright, 0, -3, 1, 15, 1)
        self.at_vertex(flat + upright, 22, 20, 1, 20, 1)

    def test_nest_with_a_segment_in_the_innermost(self):
        crowded = NEST + [[13, 13, 14, 14]]
        self.whole_in_face(crowded, 3, (13, 14), (15, 15), (14, 13))
        # 6: 13,13   7: 14,14; its edge is the last.
        self.on_edge(crowded, 9, 27, 2, 27, 2)


if __name__ == "__main__":
    unittest.main()
