"""How the calls behave: nothing handed in is changed, nothing is kept, printed, read or imported."""
import contextlib
import copy
import inspect
import io
import os
import subprocess
import sys
import unittest

from landmap.faces import cross, cycle, edge, face, locate, map_of, vertex

TOP = os.path.dirname(os.path.dirname(os.path.abspath(__file__)))

MAPS = [
    [],
    [[0, 0, 3, 4]],
    [[4, 4, 0, 0], [3, 0, 0, 3], [1, 4, 1, 0]],
    [[9, 0, 0, 0], [3, 0, 12, 0], [12, 0, 3, 0], [5, -1, 5, 1]],
    [[0, 0, 10, 0], [10, 0, 0, 10], [0, 10, 0, 0], [1, 1, 2, 2], [1, 2, 2, 1]],
    [[-100, -90 + k * k, 100, 90 - 19 * k] for k in range(10)],
    [[0, 0, 3]],
    [[0, 0, 0, 0]],
    [[101, 0, 0, 0]],
    [[0, 0, 3, 4]] * 11,
]
NUMBERS = (-1, 0, 1, 4, 70)
PAIRS = ((0, 0), (0, 1), (1, 0), (1, 1), (2, 0), (-1, 0), (0, -1))
POINTS = ([0, 1, 0, 1], [4, 2, 0, 5], [3, 2, 3, 2], [3, 2, 5, 3], [-1, 3, 50, 1000], [0, 0, 0, 1], [5, 1, 5], [])
POINT_PAIRS = tuple(one + other for one in POINTS for other in POINTS)


class Untouchable(list):
    """A list that any change breaks, be it undone afterwards or not."""

    def refuse(self, *args, **kwargs):
        raise RuntimeError("what was handed in is changed")

    append = clear = extend = insert = pop = remove = reverse = sort = refuse
    __setitem__ = __delitem__ = __iadd__ = __imul__ = refuse


def untouchable(lists):
    return Untouchable([Untouchable(numbers) for numbers in lists])


def all_answers(segments, points=POINTS, pairs=POINT_PAIRS):
    answers = [map_of(segments)] + [call(i, segments) for call in (vertex, edge, face) for i in NUMBERS]
    answers += [cycle(*pair, segments) for pair in PAIRS]
    answers += [locate(point, segments) for point in points]
    return answers + [cross(two, segments) for two in pairs]


class HandedIn(unittest.TestCase):
    def test_is_as_it_was(self):
        for segments in MAPS:
            before = copy.deepcopy((segments, POINTS, POINT_PAIRS))
            all_answers(segments)
            self.assertEqual((segments, POINTS, POINT_PAIRS), before)

    def test_is_not_changed_for_a_while_either(self):
        for segments in MAPS:
            answers = all_answers(untouchable(segments), untouchable(POINTS), untouchable(POINT_PAIRS))
            self.assertEqual(answers, all_answers(segments))


class Kept(unittest.TestCase):
    def test_second_call_answers_as_the_first(self):
        for segments in MAPS:
            self.assertEqual(all_answers(segments), all_answers(segments))

    def test_calls_between_do_not_matter(self):
        first = [all_answers(segments) for segments in MAPS]
        again = [all_answers(segments) for segments in reversed(MAPS)]
        self.assertEqual(again, list(reversed(first)))

    def test_segments_changed_between_calls(self):
        segments = [[0, 0, 10, 10], [0, 10, 10, 0]]
        self.assertEqual(map_of(segments), [5, 4, 1, 1])
        segments[1][3] = 10
        self.assertEqual(map_of(segments), [3, 2, 1, 1])
        segments.append([0, 0, 0, 10])
        self.assertEqual(map_of(segments), [3, 3, 2, 1])

    def test_segments_changed_between_calls_by_number(self):
        segments = [[0, 0, 10, 0], [10, 0, 0, 10], [0, 10, 0, 1]]
        self.assertEqual([edge(0, segments), face(0, segments)], [[0, 3, 0, 0], [1, 0, 1]])
        self.assertEqual(face(1, segments), [-3])
        segments[2][3] = 0
        self.assertEqual([edge(0, segments), face(0, segments)], [[0, 1, 0, 1], [1, -50, 1]])
        self.assertEqual(face(1, segments), [1, 50, 1])

    def test_segments_changed_between_calls_of_cycle_and_locate(self):
        segments = [[0, 0, 10, 0], [10, 0, 0, 10], [0, 10, 0, 1]]
        # 0: 0,0   1: 0,1   2: 0,10   3: 10,0
        self.assertEqual(cycle(0, 0, segments), [6, 0, 3, 2, 1, 2, 3])
        self.assertEqual([cycle(1, 0, segments), locate([1, 1, 1, 1], segments)], [[-3], [2, 0]])
        segments[2][3] = 0
        # 0: 0,0   1: 0,10   2: 10,0
        self.assertEqual([cycle(0, 0, segments), cycle(1, 0, segments)], [[3, 0, 1, 2], [3, 0, 2, 1]])
        self.assertEqual(locate([1, 1, 1, 1], segments), [2, 1])

    def test_point_changed_between_calls(self):
        segments = [[0, 0, 10, 0], [10, 0, 0, 10], [0, 10, 0, 0]]
        point = [1, 1, 1, 1]
        self.assertEqual(locate(point, segments), [2, 1])
        point[2] = 0
        self.assertEqual(locate(point, segments), [1, 1])
        point[0] = 0
        self.assertEqual(locate(point, segments), [0, 0])
        point.append(1)
        self.assertEqual(locate(point, segments), [-4])

    def test_points_and_segments_changed_between_calls_of_cross(self):
        segments = [[0, 0, 10, 0], [10, 0, 0, 10], [0, 10, 0, 0]]
        points = [1, 1, 1, 1, 20, 1, 20, 1]
        self.assertEqual(cross(points, segments), [1])
        points[4] = 2
        points[6] = 2
        self.assertEqual(cross(points, segments), [0])
        points[6] = 20
        segments[2][3] = 1
        self.assertEqual(cross(points, segments), [0])
        segments[2] = [1, 0, 1, 10]
        self.assertEqual(cross(points, segments), [-5])
        points.pop()
        self.assertEqual(cross(points, segments), [-4])

    def test_changing_an_answer_changes_no_later_one(self):
        for segments in MAPS:
            before = copy.deepcopy(all_answers(segments))
            for answer in all_answers(segments):
                answer.append(99)
                answer[0] = 99
            self.assertEqual(all_answers(segments), before)


class Answers(unittest.TestCase):
    def test_are_lists_of_whole_numbers(self):
        for segments in MAPS:
            for answer in all_answers(segments):
                self.assertIs(type(answer), list)
                for number in answer:
                    self.assertIs(type(number), int)

    def test_have_just_the_counts_told(self):
        for segments in MAPS:
            counted = map_of(segments)
            if counted[0] < 0:
                self.assertEqual(len(counted), 1)
                continue
            self.assertEqual(len(counted), 4)
            for i in range(counted[0]):
                told = vertex(i, segments)
                self.assertEqual(len(told), 5 + told[0])
            for i in range(counted[1]):
                self.assertEqual(len(edge(i, segments)), 4)
            for f in range(counted[2]):
                told = face(f, segments)
                self.assertEqual(len(told), 3)
                for k in range(told[0]):
                    walk = cycle(f, k, segments)
                    self.assertEqual(len(walk), 1 + walk[0])
            for point in ([0, 1, 0, 1], [4, 2, 0, 5], [99, 1, 99, 1]):
                self.assertEqual(len(locate(point, segments)), 2)
                self.assertEqual(len(cross(point + [101, 1, 7, 2], segments)), 1)

    def test_names_of_arguments(self):
        self.assertEqual(list(inspect.signature(map_of).parameters), ["segments"])
        for call in (vertex, edge, face):
            self.assertEqual(list(inspect.signature(call).parameters), ["i", "segments"])
        self.assertEqual(list(inspect.signature(cycle).parameters), ["f", "k", "segments"])
        self.assertEqual(list(inspect.signature(locate).parameters), ["point", "segments"])
        self.assertEqual(list(inspect.signature(cross).parameters), ["points", "segments"])
        self.assertEqual(map_of(segments=[[0, 0, 3, 4]]), [2, 1, 1, 1])
        self.assertEqual(vertex(i=1, segments=[[0, 0, 3, 4]]), [1, 3, 1, 4, 1, 0])
        self.assertEqual(edge(i=0, segments=[[0, 0, 3, 4]]), [0, 1, 0, 0])
        self.assertEqual(face(i=0, segments=[[0, 0, 3, 4]]), [1, 0, 1])
        self.assertEqual(cycle(f=0, k=0, segments=[[0, 0, 3, 4]]), [2, 0, 1])
        self.assertEqual(locate(point=[3, 2, 2, 1], segments=[[0, 0, 3, 4]]), [1, 0])
        self.assertEqual(cross(points=[1, 1, 1, 1, 0, 1, 5, 1], segments=[[0, 0, 3, 4]]), [0])


class Readme(unittest.TestCase):
    def test_examples(self):
        with open(os.path.join(TOP, "README.md"), encoding="utf-8") as file:
            code = file.read().split("```python\n")[1].split("```")[0]
        names = {}
        exec(code, names)
        examples = [line.split("  #") for line in code.split("\n") if "  #" in line]
        self.assertEqual(len(examples), 7)
        for call, answer in examples:
            self.assertEqual(repr(eval(call, names)), answer.strip(), call)


class World(unittest.TestCase):
    def test_nothing_is_printed(self):
        out = io.StringIO()
        err = io.StringIO()
        with contextlib.redirect_stdout(out), contextlib.redirect_stderr(err):
            for segments in MAPS:
                all_answers(segments)
        self.assertEqual(out.getvalue() + err.getvalue(), "")

    def test_nothing_but_the_package_is_imported(self):
        script = (
            "import sys\n"
            "before = set(sys.modules)\n"
            "import landmap.faces\n"
            "landmap.faces.map_of([[0, 0, 2, 1], [0, 1, 1, 0]])\n"
            "landmap.faces.vertex(2, [[0, 0, 2, 1], [0, 1, 1, 0]])\n"
            "landmap.faces.edge(2, [[0, 0, 2, 1], [0, 1, 1, 0]])\n"
            "landmap.faces.face(0, [[0, 0, 2, 1], [0, 1, 1, 0]])\n"
            "landmap.faces.cycle(0, 0, [[0, 0, 2, 1], [0, 1, 1, 0]])\n"
            "landmap.faces.locate([2, 3, 1, 3], [[0, 0, 2, 1], [0, 1, 1, 0]])\n"
            "landmap.faces.cross([2, 1, 5, 3, 0, 1, 9, 1], [[0, 0, 2, 1], [0, 1, 1, 0]])\n"
            "print(sorted(set(sys.modules) - before))\n"
        )
        ran = subprocess.run([sys.executable, "-c", script], cwd=TOP, capture_output=True, text=True)
        self.assertEqual(ran.stdout.strip(), "['landmap', 'landmap.faces']", ran.stderr)


if __name__ == "__main__":
    unittest.main()
