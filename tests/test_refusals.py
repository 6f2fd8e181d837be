"""What is refused, with which number, and what is just not refused."""
import unittest

from landmap.faces import cross, cycle, edge, face, locate, map_of, vertex

LARGEST = 4294967295
GOOD = [0, 0, 3, 4]
GOOD_POINT = [1, 2, 3, 4]
FAR_POINT = [500, 1, 501, 1]
WRONG_POINTS = ([], [0, 1, 0], [0, 1, 0, 1, 0], [0, 0, 0, 1], [0, 1, 0, 1001], [100001, 1, 0, 1], [LARGEST] * 12)

CROSSING = [[0, 0, 10, 10], [0, 10, 10, 0]]
TRIANGLE = [[0, 0, 10, 0], [10, 0, 0, 10], [0, 10, 0, 0]]
BY_NUMBER = (vertex, edge, face)


class RefusalCase(unittest.TestCase):
    def all_refuse(self, number, segments):
        self.assertEqual(map_of(segments), [number])
        for call in BY_NUMBER:
            for i in (-LARGEST, -1, 0, 1, 2, LARGEST):
                self.assertEqual(call(i, segments), [number])
        for pair in ((0, 0), (-1, 0), (0, -1), (1, 1), (LARGEST, LARGEST)):
            self.assertEqual(cycle(*pair, segments), [number])
        for point in (GOOD_POINT, *WRONG_POINTS):
            self.assertEqual(locate(point, segments), [number])
            self.assertEqual(cross(GOOD_POINT + point[:8], segments), [number])
            self.assertEqual(cross(point[:8] + GOOD_POINT, segments), [number])

    def all_take(self, segments):
        self.assertEqual(len(map_of(segments)), 4)
        self.assertGreater(vertex(0, segments)[0], 0)
        self.assertEqual(len(edge(0, segments)), 4)
        self.assertEqual(len(face(0, segments)), 3)
        self.assertGreater(cycle(0, 0, segments)[0], 1)
        self.assertEqual(len(locate(GOOD_POINT, segments)), 2)
        self.assertGreaterEqual(cross([199, 2, 199, 3] + FAR_POINT, segments)[0], 0)


class TooMany(RefusalCase):
    def test_ten_are_taken(self):
        self.all_take([[0, k, 5, k] for k in range(10)])

    def test_eleven_and_twelve(self):
        self.all_refuse(-2, [[0, k, 5, k] for k in range(11)])
        self.all_refuse(-2, [[0, k, 5, k] for k in range(12)])

    def test_also_the_same_one_eleven_times(self):
        self.all_refuse(-2, [GOOD] * 11)

    def test_is_told_ahead_of_a_wrong_segment(self):
        for wrong in ([], [1, 2, 3], [5, 5, 5, 5], [101, 0, 0, 0], [0, 0, 0, -LARGEST]):
            self.all_refuse(-2, [wrong] + [GOOD] * 10)
            self.all_refuse(-2, [GOOD] * 10 + [wrong])
            self.all_refuse(-2, [GOOD] * 11 + [wrong])
        self.all_refuse(-2, [[]] * 12)


class WrongSegment(RefusalCase):
    def refused_anywhere(self, wrong):
        self.all_refuse(-1, [wrong])
        self.all_refuse(-1, [wrong, GOOD])
        self.all_refuse(-1, [GOOD, wrong])
        self.all_refuse(-1, [GOOD, wrong, GOOD])
        self.all_refuse(-1, [GOOD] * 9 + [wrong])

    def test_count_of_numbers(self):
        for count in (0, 1, 2, 3, 5, 6):
            self.refused_anywhere([1, 2, 3, 4, 5, 6][:count])

    def test_ends_that_are_the_same(self):
        self.refused_anywhere([0, 0, 0, 0])
        self.refused_anywhere([7, -3, 7, -3])
        self.refused_anywhere([100, -100, 100, -100])

    def test_ends_that_differ_in_one_number(self):
        self.all_take([[7, -3, 7, -2]])
        self.all_take([[7, -3, 8, -3]])
        self.all_take([[3, 3, 4, 3]])

    def test_ends_that_have_the_same_numbers_the_other_way_round(self):
        self.all_take([[3, 5, 5, 3]])

    def test_numbers_just_within(self):
        for place in range(4):
            for number in (-100, 100):
                segment = [1, 2, 3, 4]
                segment[place] = number
                self.all_take([segment])
        self.all_take([[-100, -100, 100, 100], [-100, 100, 100, -100]])

    def test_numbers_beyond(self):
        for place in range(4):
            for number in (-101, 101, -102, 102, -1000, 1000, -LARGEST, LARGEST):
                segment = [1, 2, 3, 4]
                segment[place] = number
                self.refused_anywhere(segment)

    def test_all_numbers_beyond(self):
        self.refused_anywhere([LARGEST, LARGEST, -LARGEST, -LARGEST])
        self.refused_anywhere([LARGEST] * 4)
        self.refused_anywhere([101] * 6)

    def test_several_faults_of_the_same_number(self):
        self.all_refuse(-1, [[], [5, 5, 5, 5], [0, 0, 0, 101], [1, 2, 3, 4, 5]])


class WrongPoint(RefusalCase):
    """Also where there are no segments at all, and where the point would be a vertex."""

    def refused(self, point):
        for segments in ([], [GOOD], CROSSING, TRIANGLE, [[0, k, 5, k] for k in range(10)]):
            self.assertEqual(locate(point, segments), [-4], (point, segments))

    def taken(self, point):
        for segments in ([], [GOOD], CROSSING, TRIANGLE):
            self.assertEqual(len(locate(point, segments)), 2, (point, segments))

    def test_count_of_numbers(self):
        for count in range(13):
            if count != 4:
                self.refused([1] * count)
                self.refused([0, 1, 0, 1, 0, 1, 0, 1, 0, 1, 0, 1][:count])
                self.refused([LARGEST] * count)
        self.taken([1] * 4)

    def test_what_is_above(self):
        for place in (0, 2):
            for number in (-100001, 100001, 100002, -LARGEST, LARGEST):
                for below in (1, 1000):
                    self.refused(self.changed([0, below, 0, below], place, number))
            for number in (-100000, -99999, 0, 99999, 100000):
                self.taken(self.changed([0, 1, 0, 1], place, number))
                self.taken(self.changed([0, 1000, 0, 1000], place, number))

    def test_what_is_below(self):
        for place in (1, 3):
            for number in (0, -1, -2, -1000, 1001, 1002, -LARGEST, LARGEST):
                for above in (0, 1, 10, -100000):
                    self.refused(self.changed([above, 1, above, 1], place, number))
            for number in (1, 2, 999, 1000):
                self.taken(self.changed([10, 1, 10, 1], place, number))

    def changed(self, point, place, number):
        return point[:place] + [number] + point[place + 1:]

    def test_is_judged_as_told_not_in_lowest_terms(self):
        self.refused([100002, 2, 0, 1])
        self.refused([2000, 2000, 0, 1])
        self.refused([-3, -1, 4, 1])

    def test_several_numbers(self):
        self.refused([0, 0, 0, 0])
        self.refused([LARGEST] * 4)
        self.refused([-LARGEST] * 4)

    def test_is_told_behind_the_refusals_of_segments(self):
        for point in WRONG_POINTS:
            self.refused(point)
            self.assertEqual(locate(point, [[0, 0, 0, 0]]), [-1])
            self.assertEqual(locate(point, [GOOD, [0, 0, 101, 0]]), [-1])
            self.assertEqual(locate(point, [GOOD] * 11), [-2])
            self.assertEqual(locate(point, [[]] * 12), [-2])


class NoSuchOne(RefusalCase):
    def none_there(self, call, numbers, segments):
        for i in numbers:
            self.assertEqual(call(i, segments), [-3], (call, i))

    def test_below_0(self):
        for call in BY_NUMBER:
            self.none_there(call, (-1, -2, -3, -4, -5, -6, -100, -LARGEST), CROSSING)
            self.none_there(call, (-1, -2, -3, -4, -5, -6, -100, -LARGEST), TRIANGLE)

    def test_last_vertex_and_first_that_is_not_there(self):
        self.assertEqual(vertex(4, CROSSING), [1, 10, 1, 10, 1, 2])
        self.none_there(vertex, (5, 6), CROSSING)

    def test_last_edge_and_first_that_is_not_there(self):
        self.assertEqual(edge(3, CROSSING), [2, 4, 0, 0])
        self.none_there(edge, (4, 5, 6), CROSSING)
        self.assertEqual(edge(0, [GOOD]), [0, 1, 0, 0])
        self.none_there(edge, (1, 2), [GOOD])

    def test_last_face_and_first_that_is_not_there(self):
        self.assertEqual(face(0, CROSSING), [1, 0, 1])
        self.none_there(face, (1, 2, 3), CROSSING)
        self.assertEqual(face(1, TRIANGLE), [1, 50, 1])
        self.none_there(face, (2, 3), TRIANGLE)

    def test_cycles_within_have_no_face_of_their_own(self):
        within = TRIANGLE + [[1, 1, 2, 2], [3, 1, 4, 2]]
        self.assertEqual(face(1, within), [3, 50, 1])
        self.none_there(face, (2, 3, 4), within)

    def test_very_large(self):
        for call in BY_NUMBER:
            self.none_there(call, (100, 65536, 2147483648, LARGEST), CROSSING)
            self.none_there(call, (100, 65536, 2147483648, LARGEST), TRIANGLE)

    def test_where_there_are_no_segments_there_is_face_0_alone(self):
        self.none_there(vertex, (-LARGEST, -1, 0, 1, LARGEST), [])
        self.none_there(edge, (-LARGEST, -1, 0, 1, LARGEST), [])
        self.none_there(face, (-LARGEST, -1, 1, LARGEST), [])
        self.assertEqual(face(0, []), [0, 0, 1])

    def test_is_told_behind_the_refusals_of_segments(self):
        for call in BY_NUMBER:
            self.assertEqual(call(-1, [[0, 0, 0, 0]]), [-1])
            self.assertEqual(call(99, [[0, 0, 0]]), [-1])
            self.assertEqual(call(LARGEST, [GOOD, [0, 0, 101, 0]]), [-1])
            self.assertEqual(call(-1, [GOOD] * 11), [-2])
            self.assertEqual(call(99, [[]] * 12), [-2])


if __name__ == "__main__":
    unittest.main()
