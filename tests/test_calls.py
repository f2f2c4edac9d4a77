"""What holds for every call: refusals, what is handed in and given back, and that nothing is kept."""

import ast
import contextlib
import io
import pathlib
import unittest

import bodyfaces.bodies
from bodyfaces.bodies import corners, faces
from tests import oracle

LEAST, MOST = -2147483648, 2147483647
WRONG_N = (LEAST, -12, -1, 0, 13, 14, 256, MOST)
WRONG_D = (LEAST, -4, -1, 0, 5, 6, 256, MOST)
WRONG_K = (LEAST, -4, -3, -2, 5, 6, 256, MOST)


class Refusals(unittest.TestCase):
    def test_n_is_from_1_to_12(self):
        for n in WRONG_N:
            for d in range(1, 5):
                self.assertEqual(corners(n, d, []), [-2])
                for k in range(-1, 5):
                    self.assertEqual(faces(n, d, k, []), [-2])

    def test_d_is_from_1_to_4(self):
        for d in WRONG_D:
            for n in range(1, 13):
                self.assertEqual(corners(n, d, []), [-2])
                for k in range(-1, 5):
                    self.assertEqual(faces(n, d, k, []), [-2])

    def test_k_is_from_minus_1_to_4(self):
        for k in WRONG_K:
            self.assertEqual(faces(1, 1, k, [0]), [-2])
            self.assertEqual(faces(4, 2, k, oracle.SQUARE), [-2])
            self.assertEqual(faces(8, 3, k, oracle.CUBE), [-2])
            self.assertEqual(faces(9, 4, k, oracle.CURVE4), [-2])

    def test_several_wrong_at_once(self):
        for n, d, k in zip(WRONG_N, WRONG_D, WRONG_K):
            self.assertEqual(corners(n, d, []), [-2])
            self.assertEqual(faces(n, d, 0, []), [-2])
            self.assertEqual(faces(n, d, k, []), [-2])

    def test_the_ends_of_the_ranges_are_not_refused(self):
        self.assertEqual(corners(1, 1, [0]), [0, 1])
        self.assertEqual(corners(12, 1, [0] * 12), [0, 1])
        self.assertEqual(corners(1, 4, [0] * 4), [0, 1])
        self.assertEqual(faces(1, 1, -1, [0]), [1, 0])
        self.assertEqual(faces(1, 1, 4, [0]), [0])


class WatchedList(list):
    """A list that can be read alone."""

    def refuse(self, *args):
        raise AssertionError("what is handed in was changed")

    append = clear = extend = insert = pop = remove = reverse = sort = refuse
    __setitem__ = __delitem__ = __iadd__ = __imul__ = refuse


class HandedInAndGivenBack(unittest.TestCase):
    def test_p_is_afterwards_as_it_was(self):
        for n, d, p in oracle.sample_bodies(11, 24, 3):
            before = list(p)
            corners(n, d, p)
            self.assertEqual(p, before)
            for k in range(-2, 6):
                faces(n, d, k, p)
                self.assertEqual(p, before)

    def test_p_is_not_changed_for_a_while_either(self):
        for n, d, p in oracle.sample_bodies(12, 24, 3):
            self.assertEqual(corners(n, d, WatchedList(p)), corners(n, d, p))
            for k in range(-1, 5):
                self.assertEqual(faces(n, d, k, WatchedList(p)), faces(n, d, k, p))

    def test_a_list_of_whole_numbers_is_given_back(self):
        for n, d, p in oracle.sample_bodies(13, 24, 3):
            answers = [corners(n, d, p), corners(0, d, [])] + [faces(n, d, k, p) for k in range(-2, 6)]
            for answer in answers:
                self.assertIs(type(answer), list)
                self.assertEqual([type(number) for number in answer], [int] * len(answer))


class NothingKept(unittest.TestCase):
    calls = (
        (lambda: corners(8, 3, list(oracle.CUBE)), [3, 255]),
        (lambda: faces(8, 3, 2, list(oracle.CUBE)), [6, 15, 51, 85, 170, 204, 240]),
        (lambda: corners(0, 3, []), [-2]),
        (lambda: corners(4, 2, list(oracle.SQUARE)), [2, 15]),
        (lambda: faces(4, 2, 1, list(oracle.SQUARE)), [4, 3, 5, 10, 12]),
        (lambda: faces(4, 2, 5, list(oracle.SQUARE)), [-2]),
        (lambda: faces(1, 1, -1, [3]), [1, 0]),
    )

    def test_a_call_answers_the_same_whatever_was_before_it(self):
        for before, told_before in self.calls:
            for call, told in self.calls:
                self.assertEqual(before(), told_before)
                self.assertEqual(call(), told)

    def test_what_was_given_back_can_be_changed(self):
        for call, told in self.calls:
            answer = call()
            answer.clear()
            self.assertEqual(call(), told)

    def test_p_changed_between_two_calls_is_read_anew(self):
        p = [0, 5, 9]
        self.assertEqual(corners(3, 1, p), [1, 0b101])
        p[1] = 50
        self.assertEqual(corners(3, 1, p), [1, 0b011])


class NothingPrintedReadOrImported(unittest.TestCase):
    def test_nothing_is_printed(self):
        out, err = io.StringIO(), io.StringIO()
        with contextlib.redirect_stdout(out), contextlib.redirect_stderr(err):
            corners(8, 3, oracle.CUBE)
            faces(8, 3, 1, oracle.CUBE)
            faces(8, 3, 9, oracle.CUBE)
        self.assertEqual(out.getvalue() + err.getvalue(), "")

    def test_nothing_is_read_or_imported(self):
        text = pathlib.Path(bodyfaces.bodies.__file__).read_text()
        nodes = list(ast.walk(ast.parse(text)))
        self.assertEqual([node for node in nodes if isinstance(node, (ast.Import, ast.ImportFrom))], [])
        names = {node.id for node in nodes if isinstance(node, ast.Name)}
        self.assertEqual(names & {"open", "input", "print", "eval", "exec", "__import__"}, set())


if __name__ == "__main__":
    unittest.main()
