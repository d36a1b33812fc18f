"""Promise 1: begin, section, cost."""

import unittest

from tests.helper import TOP, apart, behind, cable, last, run
from faultfind.faults import answers

PLAIN = (10, 2, 5)
TEN = cable(*[PLAIN] * 10)


class Begin(unittest.TestCase):
    def test_answers_0(self):
        self.assertEqual(run(("begin",)), [[0]])

    def test_all_else_is_refused_before_it(self):
        calls = [("section", 10, 2, 5), ("cost", 0, 5), ("measure", 0, 9), ("other", 0, 9), ("could", 0, 9),
                 ("where",), ("least",), ("first",), ("would", 0)]
        self.assertEqual(run(*calls), [[-11]] * 9)
        for call in calls:
            self.assertEqual(run(call), [[-11]])

    def test_not_begun_comes_ahead_of_all_other_refusals(self):
        self.assertEqual(run(("section", 0, 101, 0), ("cost", TOP, 0), ("measure", 2, 1), ("would", TOP)), [[-11]] * 4)

    def test_the_later_calls_are_refused_before_it_too(self):
        for later in ([10], [11, TOP], [12, TOP, TOP], [13], [14], [15], [16, TOP], [17, TOP], [18, TOP], [19]):
            self.assertEqual(apart(answers(later + [0])), [[-11], [0]], later)

    def test_what_was_refused_before_it_left_nothing(self):
        self.assertEqual(run(("section", 10, 2, 5), ("begin",), ("where",)), [[-11], [0], [0]])

    def test_a_second_one_leaves_no_cable(self):
        made = cable((10, 2, 5), (10, 2, 6), (10, 2, 7)) + [("measure", 30, 30)]
        told = behind(made, ("begin",), ("where",), ("least",), ("first",), ("cost", 0, 5), ("section", 1, 1, 9),
                      ("where",), ("cost", 0, 1))
        self.assertEqual(told, [[0], [0], [0], [-33], [-2], [0], [1, 0], [9]])

    def test_a_second_one_makes_room_for_ten_again(self):
        told = run(*TEN, *TEN, ("section",) + PLAIN)
        self.assertEqual(told[11:], [[0]] + [[i] for i in range(10)] + [[-28]])

    def test_twice_with_nothing_between(self):
        self.assertEqual(run(("begin",), ("begin",), ("where",)), [[0], [0], [0]])


class NewSection(unittest.TestCase):
    def test_answers_its_number(self):
        self.assertEqual(run(*TEN), [[0]] + [[i] for i in range(10)])

    def test_the_fault_may_be_in_it(self):
        for n in range(11):
            self.assertEqual(last(cable(*[PLAIN] * n), ("where",)), [n] + list(range(n)))

    def test_bounds_are_taken(self):
        for taken in [(1, 0, 1), (1000, 100, 1000), (1, 100, 1000), (1000, 0, 1), (1, 2, 3)]:
            self.assertEqual(behind([("begin",)], ("section",) + taken, ("cost", 0, 7)), [[0], [taken[2]]])

    def test_beyond_the_bounds(self):
        wrong = [(m, 2, 5) for m in (0, 1001, TOP)] + [(10, e, 5) for e in (101, TOP)]
        wrong += [(10, 2, o) for o in (0, 1001, TOP)] + [(0, 101, 0), (TOP, TOP, TOP)]
        for given in wrong:
            told = behind([("begin",)], ("section",) + given, ("where",), ("section",) + PLAIN, ("cost", 0, 1))
            self.assertEqual(told, [[-22], [0], [0], [5]], given)

    def test_it_lies_behind_the_others(self):
        made = cable((10, 1, 5), (20, 1, 5), (30, 1, 5))
        self.assertEqual(last(made, ("measure", 5, 9), ("where",)), [1, 0])
        self.assertEqual(last(made, ("measure", 11, 29), ("where",)), [1, 1])
        self.assertEqual(last(made, ("measure", 31, 60), ("where",)), [1, 2])

    def test_has_its_metres_times_what_each_has(self):
        made = cable((7, 9, 5), (1, 0, 5))
        self.assertEqual(behind(made, ("could", 62, 62), ("could", 63, 63), ("could", 64, 64)), [[1], [2], [0]])

    def test_the_largest_resistance(self):
        made = cable(*[(1000, 100, 1000)] * 10)
        told = behind(made, ("could", 1000000, 1000000), ("could", 1000001, TOP), ("could", 999999, 999999))
        self.assertEqual(told, [[1], [0], [1]])

    def test_not_when_it_may_not_be_in_all_any_more(self):
        made = cable((10, 2, 5), (10, 2, 6), (10, 2, 7))
        for measured in [("measure", 0, 19), ("measure", 50, 60), ("measure", 30, 30), ("other", 0, 19),
                         ("other", 50, 60)]:
            told = behind(made, measured, ("section",) + PLAIN, ("cost", 3, 5), ("section",) + PLAIN)
            self.assertEqual(told[1:], [[-16], [-2], [-16]])

    def test_that_refusal_changes_nothing(self):
        made = cable((10, 2, 5), (10, 2, 6), (10, 2, 7)) + [("measure", 30, 60)]
        told = behind(made, ("section",) + PLAIN, ("where",), ("other", 0, 0), ("where",))
        self.assertEqual(told, [[-16], [2, 1, 2], [1], [1, 2]])

    def test_still_when_it_was_measured_but_may_be_in_all(self):
        made = cable((10, 2, 5), (10, 2, 6))
        told = behind(made, ("measure", 0, 20), ("other", 20, 20), ("section",) + PLAIN, ("where",))
        self.assertEqual(told, [[2], [2], [2], [3, 0, 1, 2]])

    def test_still_when_a_measurement_was_refused(self):
        made = cable((10, 2, 5), (10, 2, 6))
        told = behind(made, ("measure", 41, 50), ("measure", 5, 4), ("could", 0, 0), ("section",) + PLAIN, ("where",))
        self.assertEqual(told, [[-33], [-22], [1], [2], [3, 0, 1, 2]])

    def test_still_when_no_cable_was_measured(self):
        told = behind([("begin",)], ("measure", 0, 5), ("section",) + PLAIN, ("where",))
        self.assertEqual(told, [[-33], [0], [1, 0]])

    def test_no_eleventh(self):
        told = behind(TEN, ("section",) + PLAIN, ("where",), ("cost", 10, 5), ("section",) + PLAIN)
        self.assertEqual(told, [[-28], [10] + list(range(10)), [-2], [-28]])

    def test_the_refusal_that_is_named_first(self):
        narrowed = TEN + [("measure", 0, 0)]
        self.assertEqual(last(narrowed, ("section", 0, 2, 5)), [-22])
        self.assertEqual(last(narrowed, ("section", 10, 101, 5)), [-22])
        self.assertEqual(last(narrowed, ("section", 10, 2, 0)), [-22])
        self.assertEqual(last(narrowed, ("section",) + PLAIN), [-16])
        self.assertEqual(last(TEN, ("section", 1001, 2, 5)), [-22])
        self.assertEqual(last(cable(PLAIN, PLAIN), ("measure", 0, 0), ("section", 10, 2, 1001)), [-22])


class Cost(unittest.TestCase):
    def test_what_it_was_then_what_it_is(self):
        made = cable((10, 2, 5), (10, 2, 6))
        told = behind(made, ("cost", 0, 1), ("cost", 0, 1000), ("cost", 0, 1000), ("cost", 0, 3), ("cost", 1, 9))
        self.assertEqual(told, [[5], [1], [1000], [1000], [6]])

    def test_it_counts_from_then_on(self):
        made = cable((10, 2, 5), (10, 2, 6), (10, 2, 7))
        told = behind(made, ("least",), ("cost", 0, 50), ("least",), ("first",), ("would", 0))
        self.assertEqual(told, [[11], [5], [56], [0], [56, 1, 2]])

    def test_no_such_section(self):
        self.assertEqual(last([("begin",)], ("cost", 0, 5)), [-2])
        made = cable(PLAIN, PLAIN)
        self.assertEqual(behind(made, ("cost", 2, 5), ("cost", TOP, 5), ("cost", 1, 5)), [[-2], [-2], [5]])
        self.assertEqual(behind(TEN, ("cost", 10, 5), ("cost", 9, 5)), [[-2], [5]])

    def test_beyond_the_bounds(self):
        told = behind(cable(PLAIN), ("cost", 0, 0), ("cost", 0, 1001), ("cost", 0, TOP), ("cost", 0, 1))
        self.assertEqual(told, [[-22], [-22], [-22], [5]])

    def test_no_such_section_is_named_first(self):
        self.assertEqual(behind(cable(PLAIN), ("cost", 1, 0), ("cost", TOP, TOP)), [[-2], [-2]])

    def test_also_where_it_may_not_be(self):
        made = cable(PLAIN, PLAIN, PLAIN) + [("measure", 0, 0)]
        self.assertEqual(behind(made, ("cost", 2, 8), ("cost", 2, 9), ("where",)), [[5], [8], [1, 0]])


if __name__ == "__main__":
    unittest.main()
