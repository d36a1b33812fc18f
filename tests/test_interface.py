"""The interface: one list in, one list out, and nothing kept or changed."""

import contextlib
import inspect
import io
import unittest

import faultfind.faults
from faultfind.faults import answers
from tests.helper import NUMBERS, apart, cable, flat

ALL = cable((10, 2, 5), (10, 2, 3), (10, 0, 4), (10, 2, 4)) + [
    ("cost", 1, 2), ("could", 3, 3), ("measure", 5, 45), ("other", 0, 45), ("where",), ("least",), ("first",),
    ("would", 1), ("would", 99), ("section", 0, 0, 0), ("measure", 9, 1), ("fewest",), ("spends", 1), ("spends", 9),
    ("open", 1, 0), ("open", 0, 1), ("open", 0, 2), ("found",), ("metres",), ("resist", 1), ("point", 9), ("look", 1),
    ("sums",), ("again",), ("found",), ("begin",), ("where",)]


class Watched(list):
    """A list that tells if it's changed, even for a while."""

    def refuse(self, *given):
        raise AssertionError("it was changed")

    append = extend = insert = remove = pop = clear = sort = reverse = refuse
    __setitem__ = __delitem__ = __iadd__ = __imul__ = refuse


class Interface(unittest.TestCase):
    def test_its_name_and_argument(self):
        self.assertEqual(list(inspect.signature(faultfind.faults.answers).parameters), ["calls"])
        self.assertEqual(answers(calls=[0]), [1, 0])

    def test_how_answers_are_given_back(self):
        self.assertEqual(answers([0, 6]), [1, 0, 1, 0])
        self.assertEqual(answers([6]), [1, -11])
        calls = [0, 1, 10, 2, 5, 1, 10, 2, 3, 1, 10, 2, 4, 3, 25, 60, 6, 8]
        self.assertEqual(answers(calls), [1, 0, 1, 0, 1, 1, 1, 2, 1, 2, 3, 2, 1, 2, 1, 1])
        self.assertEqual(answers(calls + [9, 1, 9, 2, 6])[-10:], [3, 3, 1, 1, 1, -2, 3, 2, 1, 2])

    def test_each_call_has_its_number(self):
        calls = [0, 1, 10, 2, 5, 1, 10, 3, 6, 1, 10, 4, 7]
        told = apart(answers(calls + [10, 11, 2, 12, 0, 1, 13, 19, 14, 15, 16, 1, 17, 25, 18, 2, 19]))[4:]
        self.assertEqual(told, [[2], [11], [2], [-33], [3, 1, 3, 1, 5], [5], [30, 90], [30, 20, 40], [12], [10, 4, 7],
                                [3, 0, 3, 0, 0]])

    def test_each_call_is_asked_here(self):
        self.assertEqual({call[0] for call in ALL}, set(NUMBERS))
        self.assertEqual(sorted(NUMBERS.values()), list(range(20)))

    def test_whole_numbers_in_a_plain_list(self):
        told = answers(flat(ALL))
        self.assertIs(type(told), list)
        self.assertEqual({type(n) for n in told}, {int})

    def test_what_is_handed_in_stays(self):
        calls = flat(ALL)
        kept = list(calls)
        answers(calls)
        self.assertEqual(calls, kept)
        answers(Watched(calls))

    def test_what_is_given_back_is_the_callers(self):
        calls = [0]
        told = answers(calls)
        self.assertIsNot(told, calls)
        told.append(9)
        self.assertEqual(answers(calls), [1, 0])

    def test_nothing_is_kept(self):
        told = answers(flat(ALL))
        self.assertEqual(answers([6]), [1, -11])
        self.assertEqual(answers([0, 6]), [1, 0, 1, 0])
        self.assertEqual(answers(flat(ALL)), told)
        self.assertEqual(answers([0, 19]), [1, 0, 5, 0, 0, 0, 0, 0])
        answers(flat(cable((1, 1, 1))))
        self.assertEqual(answers([6]), [1, -11])

    def test_nothing_is_printed(self):
        out, err = io.StringIO(), io.StringIO()
        with contextlib.redirect_stdout(out), contextlib.redirect_stderr(err):
            answers(flat(ALL))
        self.assertEqual((out.getvalue(), err.getvalue()), ("", ""))

    def test_eighty_calls(self):
        told = apart(answers(flat(cable(*[(10, 2, i + 1) for i in range(10)]) + [("least",)] * 68 + [("where",)])))
        self.assertEqual(len(told), 80)
        self.assertEqual({tuple(answer) for answer in told[11:79]}, {tuple(told[11])})
        self.assertEqual(told[79], [10] + list(range(10)))

    def test_three_hundred_and_twenty_numbers(self):
        calls = [1, 10, 2, 5] * 80
        self.assertEqual(len(calls), 320)
        self.assertEqual(answers(calls), [1, -11] * 80)
        calls = [0] + [1, 10, 2, 5] * 79
        self.assertEqual(answers(calls), [1, 0] + [n for i in range(10) for n in (1, i)] + [1, -28] * 69)


if __name__ == "__main__":
    unittest.main()
