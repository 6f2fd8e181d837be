"""What cross answers for maps that are reckoned by hand."""
import unittest

from landmap.faces import cross, locate
from shapes import box, ring, turned

LARGEST = 4294967295
TRIANGLE = ring((0, 0), (10, 0), (0, 10))
WIDE = ring((0, 0), (90, 0), (0, 90))
NEST = WIDE + ring((9, 9), (50, 9), (9, 50)) + ring((12, 12), (20, 12), (12, 20))
HOOF = ring((0, 0), (30, 0), (30, 30), (20, 30), (20, 10), (10, 10), (10, 30), (0, 30))
CORNER = ring((0, 0), (30, 0), (0, 30)) + ring((0, 0), (10, 5), (5, 10))
FLAT = [[0, 10 * k, 40, 10 * k] for k in range(5)]
UPRIGHT = [[10 * k, 0, 10 * k, 40] for k in range(5)]


def whole(across, up):
    return [across, 1, up, 1]


class CrossCase(unittest.TestCase):
    def told(self, segments, one, other, answer):
        self.assertEqual(cross(one + other, segments), [answer], (one, other))
        self.assertEqual(cross(other + one, segments), [answer], (other, one))
        self.assertEqual(cross(one + other, turned(segments)), [answer], (one, other))

    def between(self, segments, one, other, answer):
        """For places that are whole numbers."""
        self.told(segments, whole(*one), whole(*other), answer)


class NoSegments(CrossCase):
    def test_nothing_is_to_be_crossed(self):
        self.between([], (0, 0), (0, 0), 0)
        self.between([], (-100000, 7), (100000, -7), 0)
        self.told([], [1, 3, -5, 7], [9, 1000, 2, 4], 0)


class OneFace(CrossCase):
    def test_same_point_twice(self):
        self.between(TRIANGLE, (1, 1), (1, 1), 0)
        self.between(TRIANGLE, (-1, 1), (-1, 1), 0)
        self.told(TRIANGLE, [1, 2, 1, 3], [5, 10, 3, 9], 0)

    def test_straight(self):
        self.between(TRIANGLE, (1, 1), (2, 5), 0)
        self.between(TRIANGLE, (-1, 1), (-7, 5), 0)

    def test_round_a_piece(self):
        self.between(TRIANGLE, (-1, 1), (20, 5), 0)
        self.between(TRIANGLE, (5, -1), (9, 9), 0)

    def test_into_a_notch(self):
        self.between(HOOF, (15, 20), (15, -5), 0)
        self.between(HOOF, (5, 20), (25, 20), 0)

    def test_round_a_piece_within(self):
        holed = box(0, 0, 20, 20) + box(3, 3, 17, 17)
        self.between(holed, (1, 10), (19, 10), 0)
        self.between(holed, (10, 1), (10, 19), 0)

    def test_between_pieces(self):
        pieces = box(0, 0, 9, 9) + box(20, 0, 30, 9)
        self.between(pieces, (15, 5), (-5, 5), 0)
        self.between(pieces, (15, 5), (35, 5), 0)

    def test_through_a_narrow_gap(self):
        # From 10,0 a side leads to 0,10 but ends at 1,9.
        self.between([[0, 0, 10, 0], [10, 0, 1, 9], [0, 10, 0, 0]], (1, 1), (20, 20), 0)


class Dangling(CrossCase):
    def test_one_segment(self):
        for segment in ([0, 0, 10, 0], [0, 0, 0, 10], [0, 0, 10, 10], [10, 0, 0, 10]):
            self.between([segment], (3, 6), (8, -2), 0)
            self.between([segment], (-2, 3), (7, 2), 0)
        self.between([[-100, 0, 100, 0]], (0, 1), (0, -1), 0)

    def test_tree(self):
        tree = [[0, 0, 9, 0], [3, 0, 3, 5], [6, 0, 6, -5], [3, 4, 7, 4]]
        self.between(tree, (4, 3), (4, -3), 0)
        self.between(tree, (1, 1), (8, -1), 0)

    def test_inward(self):
        self.between(box(0, 0, 20, 20) + [[0, 10, 19, 10]], (5, 5), (5, 15), 0)
        self.between(box(0, 0, 20, 20) + [[0, 10, 19, 10]], (5, 5), (5, 25), 1)

    def test_that_reaches_the_other_side_must_be_crossed(self):
        self.between(box(0, 0, 20, 20) + [[0, 10, 20, 10]], (5, 5), (5, 15), 1)

    def test_outward(self):
        self.between(TRIANGLE + [[0, 0, -50, 0]], (-10, 1), (-10, -1), 0)
        self.between(TRIANGLE + [[0, 0, -50, 0]], (-10, 1), (1, 1), 1)

    def test_many(self):
        # A way winds between the segments, which reach in from the left and from the right by turns.
        combs = [[0, 5, 19, 5], [1, 10, 20, 10], [0, 15, 19, 15]]
        self.between(box(0, 0, 20, 20) + combs, (10, 2), (10, 18), 0)


class Neighbours(CrossCase):
    def test_in_and_out(self):
        self.between(TRIANGLE, (1, 1), (-1, 1), 1)
        self.between(TRIANGLE, (1, 1), (99, 99), 1)
        self.between(box(-100, -100, 100, 100), (0, 0), (101, 0), 1)

    def test_beside_one_another(self):
        self.between(box(0, 0, 10, 10) + [[4, 0, 4, 10]], (1, 5), (9, 5), 1)
        self.between(box(0, 0, 10, 10) + [[0, 4, 10, 4]], (5, 1), (5, 9), 1)

    def test_boxes_that_share_a_part_of_a_side(self):
        self.between(box(0, 0, 10, 10) + box(10, 2, 20, 8), (5, 9), (15, 5), 1)

    def test_where_segments_lie_on_one_another_one_edge_is_crossed(self):
        self.between(TRIANGLE + turned(TRIANGLE), (1, 1), (-1, 1), 1)
        self.between(box(0, 0, 10, 10) + [[4, 0, 4, 10], [4, 10, 4, 0], [4, 2, 4, 5]], (1, 5), (9, 5), 1)

    def test_not_through_a_vertex(self):
        # Through the one vertex that both have, nothing would be crossed, but no way goes there.
        self.between(box(0, 0, 10, 10) + box(10, 10, 20, 20), (9, 9), (11, 11), 2)
        quarters = box(0, 0, 4, 4) + [[0, 0, 4, 4], [0, 4, 4, 0]]
        self.between(quarters, (1, 2), (3, 2), 2)
        self.between(quarters, (2, 1), (2, 3), 2)
        self.between(quarters, (1, 2), (2, 3), 1)


class Ways(CrossCase):
    def test_grid(self):
        grid = FLAT + UPRIGHT
        self.between(grid, (5, 5), (15, 5), 1)
        self.between(grid, (5, 5), (15, 15), 2)
        self.between(grid, (15, 15), (25, 25), 2)
        self.between(grid, (15, 15), (-5, 15), 2)
        self.between(grid, (15, 15), (50, 50), 2)
        self.between(grid, (25, 15), (50, 15), 2)

    def test_round_through_face_0_is_shorter_than_straight(self):
        # Straight it would be three edges, or six.
        self.between(FLAT + UPRIGHT, (5, 5), (35, 5), 2)
        self.between(FLAT + UPRIGHT, (5, 5), (35, 35), 2)

    def test_round_through_a_bounded_face_is_shorter_than_straight(self):
        # Five leaves, one above the other, in one hall.
        leaves = [[0, 0, 30, 5 * k] for k in range(6)] + [[30, 0, 30, 25]]
        hall = leaves + ring((-10, -10), (99, -10), (-10, 99))
        self.between(hall, (29, 1), (29, 6), 1)
        self.between(hall, (29, 1), (29, 11), 2)
        self.between(hall, (29, 1), (29, 16), 2)
        self.between(hall, (29, 1), (29, 21), 2)
        self.between(hall, (29, 11), (35, 11), 1)
        self.between(hall, (29, 11), (99, 99), 2)

    def test_straight_is_shorter_than_round(self):
        # Three chambers beside one another in one hall.
        walls = [[40, 40, 40, 50], [50, 40, 50, 50]]
        chambers = box(0, 0, 90, 90) + box(30, 40, 60, 50) + walls
        self.between(chambers, (35, 45), (45, 45), 1)
        self.between(chambers, (45, 45), (55, 45), 1)
        self.between(chambers, (35, 45), (55, 45), 2)
        self.between(chambers, (45, 45), (-5, 45), 2)

    def test_middle_row_of_a_grid(self):
        # From within it each way out is two edges at the least, from its ends one.
        grid = [[0, 10 * k, 60, 10 * k] for k in range(4)] + [[12 * k, 0, 12 * k, 30] for k in range(6)]
        self.between(grid, (18, 15), (30, 15), 1)
        self.between(grid, (18, 15), (42, 15), 2)
        self.between(grid, (6, 15), (42, 15), 3)
        self.between(grid, (6, 15), (54, 15), 2)
        self.between(grid, (18, 15), (30, 25), 2)
        self.between(grid, (18, 15), (30, 35), 2)

    def test_leaves_beside_face_0(self):
        # From the lowest leaf to the highest it is seven edges through the leaves, but two round the outside.
        fan = [[0, 0, 100, 10 * k] for k in range(9)] + [[100, 0, 100, 80]]
        self.between(fan, (90, 1), (90, 70), 2)
        self.between(fan, (90, 1), (90, 10), 1)
        self.between(fan, (90, 1), (110, 1), 1)


class WithinOneAnother(CrossCase):
    def test_from_the_innermost_to_face_0(self):
        self.between(NEST, (13, 13), (60, 60), 3)
        self.between(NEST, (10, 10), (60, 60), 2)
        self.between(NEST, (1, 1), (60, 60), 1)

    def test_from_each_to_the_next(self):
        self.between(NEST, (13, 13), (10, 10), 1)
        self.between(NEST, (10, 10), (1, 1), 1)
        self.between(NEST, (13, 13), (1, 1), 2)

    def test_two_within_one_face(self):
        pair = WIDE + ring((5, 5), (15, 5), (5, 15)) + ring((30, 5), (40, 5), (30, 25))
        self.between(pair, (6, 6), (31, 6), 2)
        self.between(pair, (6, 6), (20, 20), 1)
        self.between(pair, (31, 6), (-5, 5), 2)

    def test_two_beside_one_another(self):
        self.between(box(0, 0, 9, 9) + box(20, 0, 30, 9), (5, 5), (25, 5), 2)
        self.between(box(0, 0, 9, 9) + box(20, 0, 30, 9), (5, 5), (15, 5), 1)

    def test_from_one_of_a_nest_to_a_piece_beside_it(self):
        beside = ring((-20, 0), (-18, 0), (-20, 9))
        self.told(NEST[:6] + beside, whole(10, 10), [-39, 2, 1, 1], 3)
        self.told(NEST[:6] + beside, whole(1, 1), [-39, 2, 1, 1], 2)


class Pieces(CrossCase):
    def test_way_through_an_edge_of_one_piece_is_shorter_than_round(self):
        # A wall parts the wide box; round through face 0 it would be two edges.
        hall = box(0, 0, 60, 30) + [[30, 0, 30, 30]] + box(20, 10, 40, 20)
        self.between(hall, (5, 15), (55, 15), 1)
        self.between(hall, (25, 15), (35, 15), 1)
        self.between(hall, (25, 15), (55, 15), 2)

    def test_round_a_piece_is_shorter_than_through(self):
        barred = box(0, 0, 60, 30) + [[30, 5, 30, 25], [32, 5, 32, 25], [30, 5, 32, 5], [30, 25, 32, 25]]
        self.between(barred, (5, 15), (55, 15), 0)
        self.told(barred, whole(5, 15), whole(31, 15), 1)


class TouchingItself(CrossCase):
    def test_pocket_in_a_corner(self):
        self.between(CORNER, (5, 5), (7, 7), 0)
        self.between(CORNER, (5, 5), (1, 20), 1)
        self.between(CORNER, (5, 5), (-1, 5), 2)
        self.between(CORNER, (1, 20), (20, 1), 0)
        self.between(CORNER, (1, 20), (-1, 20), 1)

    def test_pocket_wider_than_what_is_round_it(self):
        wide = ring((0, 0), (30, 0), (0, 30)) + ring((0, 0), (28, 1), (1, 28))
        self.between(wide, (1, 1), (14, 14), 0)
        self.between(wide, (5, 5), (-1, 5), 2)
        self.told(wide, whole(5, 5), [1, 2, 20, 1], 1)
        self.told(wide, [20, 1, 1, 2], [1, 2, 20, 1], 0)

    def test_piece_in_the_pocket(self):
        pocketed = CORNER + ring((5, 5), (6, 5), (6, 6))
        self.told(pocketed, [23, 4, 21, 4], whole(7, 7), 1)
        self.told(pocketed, [23, 4, 21, 4], whole(20, 1), 2)
        self.told(pocketed, [23, 4, 21, 4], whole(-1, -1), 3)


class AgainstLocate(CrossCase):
    def test_nothing_is_crossed_just_within_one_face(self):
        points = [[3 * a, 2, 5 * b, 3] for a in range(-1, 14, 3) for b in range(-1, 14, 3)]
        for segments in (CORNER, NEST, HOOF, TRIANGLE + [[1, 1, 2, 2]]):
            places = {tuple(point): locate(point, segments) for point in points}
            free = [point for point in points if places[tuple(point)][0] == 2]
            for one in free:
                for other in free:
                    together = places[tuple(one)] == places[tuple(other)]
                    self.assertEqual(cross(one + other, segments) == [0], together, (one, other, segments))


class HowPointsAreTold(CrossCase):
    def test_different_numbers_below(self):
        # 0: 0,0   1: 0,1   2: 2/3,1/3
        bow = [[0, 0, 2, 1], [0, 1, 1, 0], [0, 0, 0, 1], [1, 0, 2, 1]]
        self.told(bow, [1, 3, 1, 2], [11, 10, 3, 7], 2)
        self.told(bow, [1, 3, 1, 2], [1, 997, 1, 991], 0)
        self.told(bow, [1, 3, 1, 2], [-1, 997, 1, 991], 1)

    def test_not_in_lowest_terms(self):
        self.told(TRIANGLE, [8, 2, 10, 2], [6, 6, 9, 3], 0)
        self.told(TRIANGLE, [8, 2, 10, 2], [12, 2, 15, 3], 1)

    def test_bounds(self):
        land = box(-100, -100, 100, 100)
        self.told(land, [99999, 1000, 0, 1], [-99999, 1000, 99999, 1000], 0)
        self.told(land, [99999, 1000, 0, 1], [100000, 999, 0, 1], 1)
        self.told(land, [100000, 1, -100000, 1], [-100000, 1, 100000, 1], 0)

    def test_just_beside_an_edge(self):
        self.told(TRIANGLE, [4999, 1000, 5, 1], [5001, 1000, 5, 1], 1)
        self.told(TRIANGLE, [4999, 1000, 5, 1], [5, 1, 4999, 1000], 0)


class OnAnEdge(CrossCase):
    CUT = [[0, 0, 2, 1], [0, 1, 1, 0]]
    # Two ends, a crossing that isn't whole, and points amid three of the edges.
    BLOCKED = ([0, 1, 0, 1], [2, 1, 1, 1], [2, 3, 1, 3], [4, 6, 2, 6], [1, 2, 1, 4], [1, 2, 1, 2], [1, 1, 1, 2])
    FREE = ([5, 1, 5, 1], [1, 2, 1, 3], [4, 1, 2, 1], [-1, 1000, 0, 1])

    def test_one_or_the_other(self):
        for blocked in self.BLOCKED:
            for free in self.FREE:
                self.told(self.CUT, blocked, free, -5)

    def test_both(self):
        for one in self.BLOCKED:
            for other in self.BLOCKED:
                self.told(self.CUT, one, other, -5)

    def test_neither(self):
        for one in self.FREE:
            for other in self.FREE:
                self.told(self.CUT, one, other, 0)

    def test_on_a_segments_line_beyond_its_end(self):
        self.between([[0, 0, 4, 2]], (6, 3), (-2, -1), 0)
        self.between([[0, 0, 4, 2]], (4, 2), (-2, -1), -5)

    def test_border_of_a_face(self):
        self.between(TRIANGLE, (0, 5), (1, 1), -5)
        self.between(TRIANGLE, (5, 5), (-1, 1), -5)
        self.between(TRIANGLE, (0, 5), (0, 6), -5)

    def test_dangling_and_within(self):
        crowded = box(0, 0, 20, 20) + [[0, 0, 5, 5], [10, 4, 12, 8]]
        self.between(crowded, (3, 3), (1, 10), -5)
        self.between(crowded, (11, 6), (1, 10), -5)


class WrongPoint(CrossCase):
    def refused(self, points):
        for segments in ([], [[0, 0, 3, 4]], TRIANGLE, FLAT + UPRIGHT):
            self.assertEqual(cross(points, segments), [-4], (points, segments))

    def taken(self, points):
        for segments in ([], [[0, 0, 3, 4]], TRIANGLE):
            self.assertNotEqual(cross(points, segments), [-4], (points, segments))

    def changed(self, points, place, number):
        return points[:place] + [number] + points[place + 1:]

    def test_count_of_numbers(self):
        for count in range(13):
            if count != 8:
                self.refused([1] * count)
                self.refused([7, 2] * (count // 2) + [7] * (count % 2))
                self.refused([LARGEST] * count)
        self.taken([1] * 8)
        self.assertEqual(cross([7, 2] * 4, TRIANGLE), [0])

    def test_what_is_above(self):
        for place in (0, 2, 4, 6):
            for number in (-100001, 100001, -LARGEST, LARGEST):
                self.refused(self.changed([7, 1] * 4, place, number))
                self.refused(self.changed([7, 1000] * 4, place, number))
            for number in (-100000, -99999, 0, 99999, 100000):
                self.taken(self.changed([7, 1] * 4, place, number))
                self.taken(self.changed([7, 1000] * 4, place, number))

    def test_what_is_below(self):
        for place in (1, 3, 5, 7):
            for number in (0, -1, -1000, 1001, -LARGEST, LARGEST):
                self.refused(self.changed([7, 1] * 4, place, number))
                self.refused(self.changed([0, 1] * 4, place, number))
            for number in (1, 2, 999, 1000):
                self.taken(self.changed([7, 1] * 4, place, number))

    def test_both_points(self):
        self.refused([0] * 8)
        self.refused([LARGEST] * 8)
        self.refused([7, 0, 7, 1, 7, 1, 7, 1001])

    def test_is_told_ahead_of_a_point_on_an_edge(self):
        on_vertex = [0, 1, 0, 1]
        on_edge = [0, 1, 5, 1]
        for blocked in (on_vertex, on_edge):
            for wrong in ([], [0, 1, 0], [0, 1, 0, 1, 0], [0, 0, 0, 1], [0, 1, 0, 1001], [100001, 1, 0, 1]):
                self.assertEqual(cross(blocked + wrong, TRIANGLE), [-4])
            for wrong in ([0, 0, 0, 1], [0, 1, 0, 1001], [100001, 1, 0, 1]):
                self.assertEqual(cross(wrong + blocked, TRIANGLE), [-4])


class WrongSegments(CrossCase):
    POINTS = ([1, 2, 3, 4, 5, 6, 7, 8], [0, 1, 0, 1, 0, 1, 0, 1], [0] * 8, [], [1] * 12)

    def test_more_than_ten(self):
        for points in self.POINTS:
            self.assertEqual(cross(points, [[0, k, 5, k] for k in range(11)]), [-2])
            self.assertEqual(cross(points, [[0, 0, 5, 0]] * 12), [-2])

    def test_wrong_ones(self):
        for wrong in ([], [1, 2, 3], [1, 2, 3, 4, 5, 6], [5, 5, 5, 5], [101, 0, 0, 0], [0, 0, 0, -LARGEST]):
            for points in self.POINTS:
                self.assertEqual(cross(points, [wrong]), [-1])
                self.assertEqual(cross(points, [[0, 0, 5, 0]] * 9 + [wrong]), [-1])
                self.assertEqual(cross(points, [[0, 0, 5, 0]] * 10 + [wrong]), [-2])

    def test_of_several_the_one_told_first(self):
        many = [[0, 0, 5, 0]] * 11
        vertex_twice = [0, 1, 0, 1, 5, 1, 0, 1]
        self.assertEqual(cross(vertex_twice[:7] + [0], many + [[1, 1, 1, 1]]), [-2])
        self.assertEqual(cross(vertex_twice[:7] + [0], many[:9] + [[1, 1, 1, 1]]), [-1])
        self.assertEqual(cross(vertex_twice[:7] + [0], many[:9]), [-4])
        self.assertEqual(cross(vertex_twice, many[:9]), [-5])
        self.assertEqual(cross([0, 1, 1, 1, 5, 1, 1, 1], many[:9]), [0])


if __name__ == "__main__":
    unittest.main()
