"""What is refused, with which number, and what is just not refused."""
import unittest

from landmap.faces import map_of, vertex

LARGEST = 4294967295
GOOD = [0, 0, 3, 4]


class RefusalCase(unittest.TestCase):
    def both_refuse(self, number, segments):
        self.assertEqual(map_of(segments), [number])
        for i in (-LARGEST, -1, 0, 1, 2, LARGEST):
            self.assertEqual(vertex(i, segments), [number])

    def both_take(self, segments):
        self.assertEqual(len(map_of(segments)), 4)
        self.assertGreater(vertex(0, segments)[0], 0)


class TooMany(RefusalCase):
    def test_ten_are_taken(self):
        self.both_take([[0, k, 5, k] for k in range(10)])

    def test_eleven_and_twelve(self):
        self.both_refuse(-2, [[0, k, 5, k] for k in range(11)])
        self.both_refuse(-2, [[0, k, 5, k] for k in range(12)])

    def test_also_the_same_one_eleven_times(self):
        self.both_refuse(-2, [GOOD] * 11)

    def test_is_told_ahead_of_a_wrong_segment(self):
        for wrong in ([], [1, 2, 3], [5, 5, 5, 5], [101, 0, 0, 0], [0, 0, 0, -LARGEST]):
            self.both_refuse(-2, [wrong] + [GOOD] * 10)
            self.both_refuse(-2, [GOOD] * 10 + [wrong])
            self.both_refuse(-2, [GOOD] * 11 + [wrong])
        self.both_refuse(-2, [[]] * 12)


class WrongSegment(RefusalCase):
    def refused_anywhere(self, wrong):
        self.both_refuse(-1, [wrong])
        self.both_refuse(-1, [wrong, GOOD])
        self.both_refuse(-1, [GOOD, wrong])
        self.both_refuse(-1, [GOOD, wrong, GOOD])
        self.both_refuse(-1, [GOOD] * 9 + [wrong])

    def test_count_of_numbers(self):
        for count in (0, 1, 2, 3, 5, 6):
            self.refused_anywhere([1, 2, 3, 4, 5, 6][:count])

    def test_ends_that_are_the_same(self):
        self.refused_anywhere([0, 0, 0, 0])
        self.refused_anywhere([7, -3, 7, -3])
        self.refused_anywhere([100, -100, 100, -100])

    def test_ends_that_differ_in_one_number(self):
        self.both_take([[7, -3, 7, -2]])
        self.both_take([[7, -3, 8, -3]])
        self.both_take([[3, 3, 4, 3]])

    def test_ends_that_have_the_same_numbers_the_other_way_round(self):
        self.both_take([[3, 5, 5, 3]])

    def test_numbers_just_within(self):
        for place in range(4):
            for number in (-100, 100):
                segment = [1, 2, 3, 4]
                segment[place] = number
                self.both_take([segment])
        self.both_take([[-100, -100, 100, 100], [-100, 100, 100, -100]])

    def test_numbers_beyond(self):
        for place in range(4):
            for number in (-101, 101, -102, 102, -1000, 1000, -LARGEST, LARGEST):
                segment = [1, 2, 3, 4]
                segment[place] = number
                self.refused_anywhere(segment)

    def test_all_numbers_beyond(self):
        self.refused_anywhere([LARGEST, LARGEST, -LARGEST, -LARGEST])
        self.refused_anywhere([LARGEST] * 4)
        self.refused_anywhere([101] * 6)

    def test_several_faults_of_the_same_number(self):
        self.both_refuse(-1, [[], [5, 5, 5, 5], [0, 0, 0, 101], [1, 2, 3, 4, 5]])


class NoSuchVertex(RefusalCase):
    def test_below_0(self):
        for i in (-1, -2, -5, -6, -100, -LARGEST):
            self.assertEqual(vertex(i, [[0, 0, 10, 10], [0, 10, 10, 0]]), [-3])

    def test_last_one_and_first_that_is_not_there(self):
        segments = [[0, 0, 10, 10], [0, 10, 10, 0]]
        self.assertEqual(vertex(4, segments), [1, 10, 1, 10, 1, 2])
        self.assertEqual(vertex(5, segments), [-3])
        self.assertEqual(vertex(6, segments), [-3])

    def test_very_large(self):
        for i in (100, 65536, 2147483648, LARGEST):
            self.assertEqual(vertex(i, [[0, 0, 10, 10], [0, 10, 10, 0]]), [-3])

    def test_there_is_none_where_there_are_no_segments(self):
        for i in (-LARGEST, -1, 0, 1, LARGEST):
            self.assertEqual(vertex(i, []), [-3])

    def test_is_told_behind_the_refusals_of_segments(self):
        self.assertEqual(vertex(-1, [[0, 0, 0, 0]]), [-1])
        self.assertEqual(vertex(99, [[0, 0, 0]]), [-1])
        self.assertEqual(vertex(-1, [GOOD] * 11), [-2])
        self.assertEqual(vertex(99, [[]] * 12), [-2])


if __name__ == "__main__":
    unittest.main()
