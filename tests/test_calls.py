"""What holds for every call: refusals, what is handed in and given back, and that nothing is kept."""

import ast
import contextlib
import inspect
import io
import pathlib
import unittest

import bodyfaces.bodies
from bodyfaces.bodies import alike, best, corners, faces, in_body, least, sides, way
from tests import oracle

LEAST, MOST = -2147483648, 2147483647
WRONG_N = (LEAST, -12, -1, 0, 13, 14, 256, MOST)
WRONG_D = (LEAST, -4, -1, 0, 5, 6, 256, MOST)
WRONG_K = (LEAST, -4, -3, -2, 5, 6, 256, MOST)

INTERFACE = {
    "corners": ["n", "d", "p"],
    "faces": ["n", "d", "k", "p"],
    "least": ["n", "d", "s", "p"],
    "in_body": ["n", "d", "p", "x"],
    "best": ["n", "d", "p", "a"],
    "way": ["n", "d", "i", "j", "p"],
    "sides": ["n", "d", "p"],
    "alike": ["n", "d", "m", "e", "p", "q"],
}


def answers(n, d, p, x):
    """What every call answers of a body, refusals for the sake of k, s, i and j among them; a is x here.

    The body stands first, second and on both sides in alike.
    """
    told = [corners(n, d, p)]
    told += [faces(n, d, k, p) for k in range(-2, 6)]
    told += [least(n, d, s, p) for s in (0, 1, 5, 4095, 4294967295)]
    told += [in_body(n, d, p, x), best(n, d, p, x)]
    told += [way(n, d, i, j, p) for i, j in ((0, 0), (0, 1), (n - 1, 0), (-1, n))]
    told += [sides(n, d, p), alike(n, d, n, d, p, p)]
    told += [alike(n, d, 4, 2, p, list(oracle.SQUARE)), alike(4, 2, n, d, list(oracle.SQUARE), p)]
    return told


def sample_calls(seed):
    """Bodies, with d numbers more for each."""
    numbers = oracle.Numbers(seed)
    for n, d, p in oracle.sample_bodies(seed, 24, 3):
        yield n, d, p, [numbers.pick(-3, 3) for axis in range(d)]


class Interface(unittest.TestCase):
    def test_each_function_has_its_arguments(self):
        for name, arguments in INTERFACE.items():
            function = getattr(bodyfaces.bodies, name)
            self.assertEqual(list(inspect.signature(function).parameters), arguments)

    def test_arguments_can_be_told_by_name(self):
        self.assertEqual(corners(n=2, d=1, p=[3, 4]), [1, 3])
        self.assertEqual(faces(n=2, d=1, k=0, p=[3, 4]), [2, 1, 2])
        self.assertEqual(least(n=2, d=1, s=2, p=[3, 4]), [0, 2])
        self.assertEqual(in_body(n=2, d=1, p=[3, 4], x=[4]), [0, 2])
        self.assertEqual(best(n=2, d=1, p=[3, 4], a=[5]), [0, 20, 2])
        self.assertEqual(way(n=2, d=1, i=0, j=1, p=[3, 4]), [1])
        self.assertEqual(sides(n=2, d=1, p=[3, 4]), [2])
        self.assertEqual(alike(n=2, d=1, m=3, e=2, p=[3, 4], q=[1, 1, 0, 0, 2, 2]), [1, 1, 2])


class Refusals(unittest.TestCase):
    def check_all_refused(self, n, d):
        # Where n or d is out of its range, p, x and their like have no numbers.
        for answer in answers(n, d, [], []):
            self.assertEqual(answer, [-2])

    def test_n_is_from_1_to_12(self):
        for n in WRONG_N:
            for d in range(1, 5):
                self.check_all_refused(n, d)

    def test_d_is_from_1_to_4(self):
        for d in WRONG_D:
            for n in range(1, 13):
                self.check_all_refused(n, d)

    def test_both_wrong_at_once(self):
        for n in WRONG_N:
            for d in WRONG_D:
                self.check_all_refused(n, d)

    def test_k_is_from_minus_1_to_4(self):
        for k in WRONG_K:
            self.assertEqual(faces(1, 1, k, [0]), [-2])
            self.assertEqual(faces(4, 2, k, oracle.SQUARE), [-2])
            self.assertEqual(faces(8, 3, k, oracle.CUBE), [-2])
            self.assertEqual(faces(9, 4, k, oracle.CURVE4), [-2])
            self.assertEqual(faces(0, 5, k, []), [-2])

    def test_the_ends_of_the_ranges_are_not_refused(self):
        for n, d in ((1, 1), (12, 1), (1, 2), (12, 2), (1, 3), (9, 3), (1, 4), (9, 4)):
            p = [0] * (n * d)
            self.assertEqual(corners(n, d, p), [0, 1])
            self.assertEqual(faces(n, d, -1, p), [1, 0])
            self.assertEqual(faces(n, d, 4, p), [0])
            self.assertEqual(least(n, d, 1 << n - 1, p), [0, 1])
            self.assertEqual(in_body(n, d, p, [0] * d), [0, 1])
            self.assertEqual(best(n, d, p, [9] * d), [0, 0, 1])
            self.assertEqual(way(n, d, 0, 0, p), [0])
            self.assertEqual(sides(n, d, p), [1])
            self.assertEqual(alike(n, d, n, d, p, p), [1, 0] + [255] * (n - 1))


class WatchedList(list):
    """A list that can be read alone."""

    def refuse(self, *args):
        raise AssertionError("what is handed in was changed")

    append = clear = extend = insert = pop = remove = reverse = sort = refuse
    __setitem__ = __delitem__ = __iadd__ = __imul__ = refuse


class HandedInAndGivenBack(unittest.TestCase):
    def test_what_is_handed_in_is_afterwards_as_it_was(self):
        for n, d, p, x in sample_calls(11):
            p_before, x_before = list(p), list(x)
            answers(n, d, p, x)
            self.assertEqual((p, x), (p_before, x_before))

    def test_it_is_not_changed_for_a_while_either(self):
        for n, d, p, x in sample_calls(12):
            self.assertEqual(answers(n, d, WatchedList(p), WatchedList(x)), answers(n, d, p, x))

    def test_a_list_of_whole_numbers_is_given_back(self):
        for n, d, p, x in sample_calls(13):
            for answer in answers(n, d, p, x) + answers(0, d, [], []):
                self.assertIs(type(answer), list)
                self.assertEqual([type(number) for number in answer], [int] * len(answer))


class NothingKept(unittest.TestCase):
    calls = (
        (lambda: corners(8, 3, list(oracle.CUBE)), [3, 255]),
        (lambda: faces(8, 3, 2, list(oracle.CUBE)), [6, 15, 51, 85, 170, 204, 240]),
        (lambda: corners(0, 3, []), [-2]),
        (lambda: corners(4, 2, list(oracle.SQUARE)), [2, 15]),
        (lambda: faces(4, 2, 1, list(oracle.SQUARE)), [4, 3, 5, 10, 12]),
        (lambda: faces(4, 2, 5, list(oracle.SQUARE)), [-2]),
        (lambda: faces(1, 1, -1, [3]), [1, 0]),
        (lambda: least(8, 3, 9, list(oracle.CUBE)), [2, 15]),
        (lambda: least(4, 2, 9, list(oracle.SQUARE)), [2, 15]),
        (lambda: least(4, 2, 0, list(oracle.SQUARE)), [-1, 0]),
        (lambda: least(4, 2, 16, list(oracle.SQUARE)), [-2]),
        (lambda: in_body(4, 2, list(oracle.SQUARE), [1, 0]), [1, 3]),
        (lambda: in_body(4, 2, list(oracle.SQUARE), [3, 0]), [-1]),
        (lambda: in_body(4, 5, [], []), [-2]),
        (lambda: best(4, 2, list(oracle.SQUARE), [0, -1]), [1, 0, 3]),
        (lambda: best(4, 2, list(oracle.SQUARE), [1, 1]), [0, 4, 8]),
        (lambda: best(13, 2, [], []), [-2]),
        (lambda: way(8, 3, 0, 7, list(oracle.CUBE)), [3]),
        (lambda: way(4, 2, 0, 3, list(oracle.SQUARE)), [2]),
        (lambda: way(4, 2, 0, 4, list(oracle.SQUARE)), [-2]),
        (lambda: sides(8, 3, list(oracle.CUBE)), [6]),
        (lambda: sides(4, 2, list(oracle.SQUARE)), [4]),
        (lambda: sides(4, 0, []), [-2]),
        (lambda: alike(4, 2, 4, 2, list(oracle.SQUARE), [0, 0, 2, 0, 2, 2, 0, 2]), [1, 0, 1, 3, 2]),
        (lambda: alike(4, 2, 4, 2, list(oracle.SQUARE), [0, 0, 2, 0, 1, 1, 0, 2]), [0]),
        (lambda: alike(4, 2, 0, 2, list(oracle.SQUARE), []), [-2]),
    )

    def test_a_call_answers_the_same_whatever_was_before_it(self):
        for before, told_before in self.calls:
            for call, told in self.calls:
                self.assertEqual(before(), told_before)
                self.assertEqual(call(), told)

    def test_what_was_given_back_can_be_changed(self):
        for call, told in self.calls:
            answer = call()
            answer.clear()
            self.assertEqual(call(), told)

    def test_what_is_changed_between_two_calls_is_read_anew(self):
        p = [0, 5, 9]
        x = [9]
        self.assertEqual(corners(3, 1, p), [1, 0b101])
        self.assertEqual(least(3, 1, 0b010, p), [1, 0b101])
        self.assertEqual(in_body(3, 1, p, x), [0, 0b100])
        self.assertEqual(best(3, 1, p, x), [0, 81, 0b100])
        self.assertEqual(way(3, 1, 0, 1, p), [-2])
        self.assertEqual(alike(3, 1, 3, 1, p, p), [1, 0, 255, 2])
        p[1] = 50
        self.assertEqual(corners(3, 1, p), [1, 0b011])
        self.assertEqual(least(3, 1, 0b010, p), [0, 0b010])
        self.assertEqual(in_body(3, 1, p, x), [1, 0b011])
        self.assertEqual(best(3, 1, p, x), [0, 450, 0b010])
        self.assertEqual(way(3, 1, 0, 1, p), [1])
        self.assertEqual(alike(3, 1, 3, 1, p, p), [1, 0, 1, 255])
        x[0] = -1
        self.assertEqual(in_body(3, 1, p, x), [-1])
        self.assertEqual(best(3, 1, p, x), [0, 0, 0b001])


    def test_the_module_is_afterwards_as_it_was(self):
        before = dict(vars(bodyfaces.bodies))
        for n, d, p, x in sample_calls(14):
            answers(n, d, p, x)
        self.assertEqual(vars(bodyfaces.bodies), before)

    def test_the_module_holds_nothing_that_could_be_changed(self):
        for name, value in vars(bodyfaces.bodies).items():
            if not name.startswith("__"):
                self.assertTrue(isinstance(value, int) or inspect.isfunction(value), name)
                if inspect.isfunction(value):
                    self.assertEqual((value.__defaults__, value.__closure__, vars(value)), (None, None, {}), name)


class NothingPrintedReadOrImported(unittest.TestCase):
    def test_nothing_is_printed(self):
        out, err = io.StringIO(), io.StringIO()
        with contextlib.redirect_stdout(out), contextlib.redirect_stderr(err):
            answers(8, 3, oracle.CUBE, [0, 0, 1])
            answers(8, 3, oracle.CUBE, [0, 0, 2])
            answers(0, 0, [], [])
        self.assertEqual(out.getvalue() + err.getvalue(), "")

    def test_nothing_is_read_or_imported(self):
        text = pathlib.Path(bodyfaces.bodies.__file__).read_text()
        nodes = list(ast.walk(ast.parse(text)))
        self.assertEqual([node for node in nodes if isinstance(node, (ast.Import, ast.ImportFrom))], [])
        names = {node.id for node in nodes if isinstance(node, ast.Name)}
        self.assertEqual(names & {"open", "input", "print", "eval", "exec", "__import__"}, set())


if __name__ == "__main__":
    unittest.main()
