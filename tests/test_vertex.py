"""What vertex answers for maps that are reckoned by hand."""
import unittest

from landmap.faces import map_of, vertex


def places(segments):
    """The places of all vertices, by number."""
    return [vertex(i, segments)[1:5] for i in range(map_of(segments)[0])]


def whole(across, up):
    return [across, 1, up, 1]


class Numbering(unittest.TestCase):
    def test_further_left_first_then_the_lower(self):
        segments = [[5, 5, 5, -5], [-3, 9, -3, 2], [0, 0, 1, 100], [-3, -100, 4, -100]]
        expected = [(-3, -100), (-3, 2), (-3, 9), (0, 0), (1, 100), (4, -100), (5, -5), (5, 5)]
        self.assertEqual(places(segments), [whole(across, up) for across, up in expected])

    def test_places_that_are_not_whole_stand_between(self):
        segments = [[0, 0, 2, 1], [0, 1, 1, 0]]
        expected = [whole(0, 0), whole(0, 1), [2, 3, 1, 3], whole(1, 0), whole(2, 1)]
        self.assertEqual(places(segments), expected)

    def test_as_far_left_at_places_that_are_not_whole(self):
        segments = [[0, 0, 1, 1], [0, 1, 1, 0], [0, 10, 1, 11], [0, 11, 1, 10], [0, -5, 1, -4], [0, -4, 1, -5]]
        halves = [place for place in places(segments) if place[1] == 2]
        self.assertEqual(halves, [[1, 2, -9, 2], [1, 2, 1, 2], [1, 2, 21, 2]])

    def test_order_and_direction_of_segments_do_not_matter(self):
        segments = [[0, 0, 4, 4], [0, 3, 3, 0], [1, 0, 1, 4]]
        turned = [[1, 4, 1, 0], [3, 0, 0, 3], [4, 4, 0, 0]]
        for i in range(map_of(segments)[0]):
            self.assertEqual(vertex(i, segments), vertex(i, turned))

    def test_each_once(self):
        segments = [[0, 0, 5, 5], [5, 5, 0, 0], [5, 5, 9, 0], [0, 10, 10, 0]]
        expected = [(0, 0), (0, 10), (5, 5), (9, 0), (10, 0)]
        self.assertEqual(places(segments), [whole(across, up) for across, up in expected])


class Fractions(unittest.TestCase):
    def test_lowest_terms(self):
        self.assertEqual(vertex(2, [[0, 0, 4, 4], [0, 3, 3, 0]]), [4, 3, 2, 3, 2, 4, 1, 0, 3])

    def test_two_thirds_and_a_third(self):
        self.assertEqual(vertex(2, [[0, 0, 2, 1], [0, 1, 1, 0]]), [4, 2, 3, 1, 3, 4, 1, 0, 3])

    def test_below_0(self):
        self.assertEqual(vertex(2, [[0, 0, -2, -1], [0, -1, -1, 0]]), [4, -2, 3, -1, 3, 4, 1, 0, 3])

    def test_one_below_0_one_above(self):
        self.assertEqual(vertex(2, [[0, 0, -2, 1], [0, 1, -1, 0]]), [4, -2, 3, 1, 3, 4, 0, 1, 3])

    def test_the_two_fractions_are_told_apart(self):
        self.assertEqual(vertex(2, [[0, 0, 3, 1], [1, 0, 1, 5]]), [4, 1, 1, 1, 3, 4, 3, 0, 1])

    def test_0_is_0_and_1(self):
        self.assertEqual(vertex(2, [[-1, 1, 1, -1], [-2, -1, 2, 1]]), [4, 0, 1, 0, 1, 4, 1, 0, 3])
        self.assertEqual(vertex(2, [[0, -1, 0, 1], [-1, 0, 2, 1]]), [4, 0, 1, 1, 3, 4, 3, 0, 1])

    def test_whole_crossings_have_1_below(self):
        self.assertEqual(vertex(2, [[-100, -100, 100, 100], [-80, 100, 80, -60]])[1:5], [10, 1, 10, 1])

    def test_what_is_below_differs_from_crossing_to_crossing(self):
        segments = [[0, 0, 2, 1], [0, 1, 1, 0], [0, 0, 7, 2], [1, 2, 4, -3]]
        for place in places(segments):
            self.assertGreater(place[1], 0)
            self.assertGreater(place[3], 0)
        self.assertIn([2, 3, 1, 3], places(segments))
        self.assertIn([7, 9, 2, 9], places(segments))
        self.assertIn([77, 41, 22, 41], places(segments))
        self.assertIn([22, 13, 11, 13], places(segments))

    def test_large_terms(self):
        segments = [[-100, -100, 100, 99], [-100, 100, 99, -100]]
        self.assertEqual(vertex(2, segments), [4, -100, 79601, -39900, 79601, 4, 1, 0, 3])


class Neighbours(unittest.TestCase):
    def test_one(self):
        self.assertEqual(vertex(0, [[-7, 3, 5, -2]]), [1, -7, 1, 3, 1, 1])
        self.assertEqual(vertex(1, [[-7, 3, 5, -2]]), [1, 5, 1, -2, 1, 0])

    def test_all_eight_directions(self):
        segments = [[-2, 0, 2, 0], [0, -2, 0, 2], [-2, -2, 2, 2], [-2, 2, 2, -2]]
        self.assertEqual(vertex(4, segments), [8, 0, 1, 0, 1, 7, 8, 5, 2, 1, 0, 3, 6])

    def test_straight_to_the_right_is_first_and_to_the_left_amid(self):
        segments = [[-5, 0, 5, 0], [0, 0, 4, -1], [0, 0, -4, -1], [0, 0, 4, 1], [0, 0, -4, 1]]
        # 0: -5,0   1: -4,-1   2: -4,1   3: 0,0   4: 4,-1   5: 4,1   6: 5,0
        self.assertEqual(vertex(3, segments), [6, 0, 1, 0, 1, 6, 5, 2, 0, 1, 4])

    def test_right_and_left_alone(self):
        self.assertEqual(vertex(1, [[0, 0, 5, 0], [5, 0, 9, 0]]), [2, 5, 1, 0, 1, 2, 0])

    def test_up_and_down_alone(self):
        self.assertEqual(vertex(1, [[0, 0, 0, 5], [0, 5, 0, 9]]), [2, 0, 1, 5, 1, 2, 0])

    def test_left_and_below(self):
        # 0: -5,0   1: 0,-5   2: 0,0
        self.assertEqual(vertex(2, [[0, 0, 0, -5], [0, 0, -5, 0]]), [2, 0, 1, 0, 1, 0, 1])

    def test_right_and_below(self):
        # 0: 0,-5   1: 0,0   2: 5,0
        self.assertEqual(vertex(1, [[0, 0, 0, -5], [0, 0, 5, 0]]), [2, 0, 1, 0, 1, 2, 0])

    def test_just_below_the_right_is_last(self):
        # 0: 0,0   1: 100,-1   2: 100,0   3: 100,1
        segments = [[0, 0, 100, -1], [0, 0, 100, 0], [0, 0, 100, 1]]
        self.assertEqual(vertex(0, segments), [3, 0, 1, 0, 1, 2, 3, 1])

    def test_just_round_the_left(self):
        # 0: -100,-1   1: -100,0   2: -100,1   3: 0,0
        segments = [[0, 0, -100, -1], [0, 0, -100, 0], [0, 0, -100, 1]]
        self.assertEqual(vertex(3, segments), [3, 0, 1, 0, 1, 2, 1, 0])

    def test_ways_that_are_nearly_one(self):
        self.assertEqual(vertex(0, [[0, 0, 100, 99], [0, 0, 99, 98]]), [2, 0, 1, 0, 1, 1, 2])
        self.assertEqual(vertex(2, [[0, 0, -100, 99], [0, 0, -99, 98]]), [2, 0, 1, 0, 1, 0, 1])

    def test_the_nearest_vertex_on_each_way(self):
        segments = [[0, 0, 9, 0], [3, 0, 3, 5], [0, 0, 0, 9], [-1, 4, 1, 4]]
        # 0: -1,4   1: 0,0   2: 0,4   3: 0,9   4: 1,4   5: 3,0   6: 3,5   7: 9,0
        self.assertEqual(vertex(1, segments), [2, 0, 1, 0, 1, 5, 2])

    def test_where_segments_lie_on_one_another_a_neighbour_counts_once(self):
        segments = [[0, 0, 8, 4], [8, 4, 0, 0], [2, 1, 6, 3], [2, 1, 10, 5]]
        # 0: 0,0   1: 2,1   2: 6,3   3: 8,4   4: 10,5
        self.assertEqual(vertex(1, segments), [2, 2, 1, 1, 1, 2, 0])
        self.assertEqual(vertex(3, segments), [2, 8, 1, 4, 1, 4, 2])

    def test_end_amid_another(self):
        # 0: 0,0   1: 5,0   2: 5,5   3: 10,0
        self.assertEqual(vertex(1, [[0, 0, 10, 0], [5, 0, 5, 5]]), [3, 5, 1, 0, 1, 3, 2, 0])

    def test_pieces_touching_in_one_vertex(self):
        segments = [[0, 0, 5, 2], [5, 2, 5, 5], [5, 5, 0, 0], [0, 0, -5, -2], [-5, -2, -5, -5], [-5, -5, 0, 0]]
        # 0: -5,-5   1: -5,-2   2: 0,0   3: 5,2   4: 5,5
        self.assertEqual(vertex(2, segments), [4, 0, 1, 0, 1, 3, 4, 1, 0])

    def test_twenty(self):
        segments = [[-50, -k, 50, k] for k in range(10)]
        # On the left 0 is the lowest; 10 is the middle; 11 is straight to the right, 9 straight to the left.
        expected = list(range(11, 21)) + list(range(9, -1, -1))
        self.assertEqual(vertex(10, segments), [20, 0, 1, 0, 1] + expected)


class TenSegments(unittest.TestCase):
    def test_grid(self):
        flat = [[-5, 10 * k, 45, 10 * k] for k in range(5)]
        upright = [[10 * k, -5, 10 * k, 45] for k in range(5)]
        # Five at the left, then seven on each upright one, lowest first: (20, 20) is 5 + 2 * 7 + 3.
        self.assertEqual(vertex(22, flat + upright), [4, 20, 1, 20, 1, 29, 23, 15, 21])
        self.assertEqual(vertex(44, flat + upright), [1, 45, 1, 40, 1, 38])


if __name__ == "__main__":
    unittest.main()
