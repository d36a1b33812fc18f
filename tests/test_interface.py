"""The interface: one list in, one list out, and nothing kept or changed."""

import contextlib
import inspect
import io
import unittest

import faultfind.faults
from faultfind.faults import answers
from tests.helper import apart, cable, flat

ALL = cable((10, 2, 5), (10, 2, 3), (10, 0, 4), (10, 2, 4)) + [
    ("cost", 1, 2), ("could", 3, 3), ("measure", 5, 45), ("other", 0, 45), ("where",), ("least",), ("first",),
    ("would", 1), ("would", 99), ("section", 0, 0, 0), ("measure", 9, 1), ("begin",), ("where",)]


class Watched(list):
    """A list that tells if it's changed, even for a while."""

    def refuse(self, *given):
        raise AssertionError("it was changed")

    append = extend = insert = remove = pop = clear = sort = reverse = refuse
    __setitem__ = __delitem__ = __iadd__ = __imul__ = refuse


class Interface(unittest.TestCase):
    def test_its_name_and_argument(self):
        self.assertEqual(list(inspect.signature(faultfind.faults.answers).parameters), ["calls"])
        self.assertEqual(answers(calls=[0]), [1, 0])

    def test_how_answers_are_given_back(self):
        self.assertEqual(answers([0, 6]), [1, 0, 1, 0])
        self.assertEqual(answers([6]), [1, -11])
        calls = [0, 1, 10, 2, 5, 1, 10, 2, 3, 1, 10, 2, 4, 3, 25, 60, 6, 8]
        self.assertEqual(answers(calls), [1, 0, 1, 0, 1, 1, 1, 2, 1, 2, 3, 2, 1, 2, 1, 1])
        self.assertEqual(answers(calls + [9, 1, 9, 2, 6])[-10:], [3, 3, 1, 1, 1, -2, 3, 2, 1, 2])

    def test_whole_numbers_in_a_plain_list(self):
        told = answers(flat(ALL))
        self.assertIs(type(told), list)
        self.assertEqual({type(n) for n in told}, {int})

    def test_what_is_handed_in_stays(self):
        calls = flat(ALL)
        kept = list(calls)
        answers(calls)
        self.assertEqual(calls, kept)
        answers(Watched(calls))

    def test_what_is_given_back_is_the_callers(self):
        calls = [0]
        told = answers(calls)
        self.assertIsNot(told, calls)
        told.append(9)
        self.assertEqual(answers(calls), [1, 0])

    def test_nothing_is_kept(self):
        told = answers(flat(ALL))
        self.assertEqual(answers([6]), [1, -11])
        self.assertEqual(answers([0, 6]), [1, 0, 1, 0])
        self.assertEqual(answers(flat(ALL)), told)
        answers(flat(cable((1, 1, 1))))
        self.assertEqual(answers([6]), [1, -11])

    def test_nothing_is_printed(self):
        out, err = io.StringIO(), io.StringIO()
        with contextlib.redirect_stdout(out), contextlib.redirect_stderr(err):
            answers(flat(ALL))
        self.assertEqual((out.getvalue(), err.getvalue()), ("", ""))

    def test_eighty_calls(self):
        told = apart(answers(flat(cable(*[(10, 2, i + 1) for i in range(10)]) + [("least",)] * 68 + [("where",)])))
        self.assertEqual(len(told), 80)
        self.assertEqual({tuple(answer) for answer in told[11:79]}, {tuple(told[11])})
        self.assertEqual(told[79], [10] + list(range(10)))

    def test_three_hundred_and_twenty_numbers(self):
        calls = [1, 10, 2, 5] * 80
        self.assertEqual(len(calls), 320)
        self.assertEqual(answers(calls), [1, -11] * 80)
        calls = [0] + [1, 10, 2, 5] * 79
        self.assertEqual(answers(calls), [1, 0] + [n for i in range(10) for n in (1, i)] + [1, -28] * 69)


if __name__ == "__main__":
    unittest.main()
