"""Promise 2: open, found, again; and all calls one behind another."""

import itertools
import unittest

from tests.helper import TOP, behind, cable, last, run, state

PLAIN = (10, 2, 5)
FOUR = cable((10, 2, 5), (10, 2, 6), (10, 2, 7), (10, 2, 8))


class Open(unittest.TestCase):
    def test_up_to_there(self):
        for i in range(3):
            told = behind(FOUR, ("open", i, 0), ("where",), ("sums",))
            self.assertEqual(told, [[i + 1], [i + 1] + list(range(i + 1)), [4, 0, i + 1, 1, 5 + i]])

    def test_behind_it(self):
        for i in range(3):
            told = behind(FOUR, ("open", i, 1), ("where",), ("sums",))
            self.assertEqual(told, [[3 - i], [3 - i] + list(range(i + 1, 4)), [4, i + 1, 4, 1, 5 + i]])

    def test_one_behind_another(self):
        told = behind(FOUR, ("open", 2, 0), ("open", 0, 1), ("where",), ("open", 1, 1), ("where",), ("sums",))
        self.assertEqual(told, [[3], [2], [2, 1, 2], [1], [1, 2], [4, 2, 3, 3, 18]])

    def test_not_at_the_last_in_which_it_may_be(self):
        self.assertEqual(behind(FOUR, ("open", 3, 0), ("open", 3, 1)), [[-2], [-2]])
        told = behind(FOUR, ("open", 1, 0), ("open", 1, 0), ("open", 1, 1), ("open", 0, 0))
        self.assertEqual(told, [[2], [-2], [-2], [1]])
        self.assertEqual(behind(FOUR, ("measure", 0, 30), ("open", 1, 0), ("open", 0, 1)), [[2], [-2], [1]])

    def test_not_where_it_may_not_be(self):
        told = behind(FOUR, ("open", 1, 1), ("open", 0, 0), ("open", 1, 0), ("open", 2, 0))
        self.assertEqual(told, [[2], [-2], [-2], [1]])
        told = behind(FOUR, ("other", 0, 30), *[("open", i, 0) for i in (0, 1, 3, 4)], ("open", 2, 1))
        self.assertEqual(told, [[2], [-2], [-2], [-2], [-2], [1]])

    def test_no_such_section(self):
        self.assertEqual(behind(FOUR, ("open", 4, 0), ("open", 10, 1), ("open", TOP, 0)), [[-2]] * 3)
        self.assertEqual(behind([("begin",)], ("open", 0, 0), ("open", TOP, 1)), [[-2], [-2]])

    def test_not_when_one_is_left(self):
        self.assertEqual(behind(cable(PLAIN), ("open", 0, 0), ("open", 0, 1)), [[-2], [-2]])
        told = behind(FOUR, ("measure", 30, 30), *[("open", i, s) for i in range(4) for s in (0, 1)])
        self.assertEqual(told, [[1]] + [[-2]] * 8)

    def test_a_side_above_1(self):
        told = behind(FOUR, ("open", 0, 2), ("open", 2, 3), ("open", 1, TOP), ("sums",), ("open", 1, 1))
        self.assertEqual(told, [[-22], [-22], [-22], [4, 0, 4, 0, 0], [2]])

    def test_that_it_cannot_be_opened_there_is_named_first(self):
        self.assertEqual(behind(FOUR, ("open", 3, 2), ("open", 4, 2), ("open", TOP, TOP)), [[-2]] * 3)
        self.assertEqual(behind(FOUR, ("open", 1, 1), ("open", 0, 2), ("open", 1, TOP)), [[2], [-2], [-2]])

    def test_what_it_costs_then_is_spent(self):
        told = behind(FOUR, ("cost", 2, 100), ("open", 2, 0), ("cost", 2, 1), ("cost", 0, 1000), ("sums",),
                      ("open", 0, 1), ("cost", 0, 2), ("sums",), ("again",))
        self.assertEqual(told, [[7], [3], [100], [5], [4, 0, 3, 1, 100], [2], [1000], [4, 1, 3, 2, 1100], [1100]])

    def test_the_dearest(self):
        made = cable(*[(1000, 100, 1000)] * 10)
        told = behind(made, *[("open", i, 1) for i in range(9)], ("sums",), ("found",), ("again",))
        self.assertEqual(told, [[9 - i] for i in range(9)] + [[10, 9, 10, 9, 9000], [9], [9000]])

    def test_each_opening_in_each_span(self):
        for low, high in itertools.combinations(range(7), 2):
            made = cable(*[(5, 2, 3 + i) for i in range(6)])
            if (low, high) != (0, 6):
                made.append(("measure", 10 * low + 1, 10 * high - 1))
            for i, side in itertools.product(range(7), (0, 1)):
                left = [t for t in range(low, high) if (t > i) == (side == 1)]
                right = low <= i < high - 1
                wanted = [[len(left)], [len(left)] + left] if right else [[-2], [high - low] + list(range(low, high))]
                self.assertEqual(behind(made, ("open", i, side), ("where",)), wanted, (low, high, i, side))


class Found(unittest.TestCase):
    def test_the_one(self):
        for i in range(4):
            self.assertEqual(last(FOUR, ("measure", 20 * i + 1, 20 * i + 19), ("found",)), [i])
        self.assertEqual(last(FOUR, ("open", 0, 0), ("found",)), [0])
        self.assertEqual(last(FOUR, ("open", 2, 1), ("found",)), [3])
        self.assertEqual(last(cable(PLAIN), ("found",)), [0])

    def test_more_than_one(self):
        told = behind(FOUR, ("found",), ("open", 1, 1), ("found",), ("open", 2, 0), ("found",))
        self.assertEqual(told, [[-33], [2], [-33], [1], [2]])
        self.assertEqual(last(FOUR, ("measure", 20, 20), ("found",)), [-33])

    def test_none(self):
        self.assertEqual(last([("begin",)], ("found",)), [-33])

    def test_it_changes_nothing(self):
        told = behind(FOUR, ("open", 2, 1), *state(4), ("found",), ("found",), *state(4))
        self.assertEqual(told[1:8], told[10:])
        self.assertEqual(told[8:10], [[3], [3]])


class Again(unittest.TestCase):
    def test_how_much_was_spent(self):
        told = behind(FOUR, ("again",), ("open", 2, 0), ("open", 0, 0), ("again",), ("again",), ("sums",))
        self.assertEqual(told, [[0], [3], [1], [12], [0], [4, 0, 4, 0, 0]])

    def test_it_may_be_in_all(self):
        for narrowing in (("measure", 0, 0), ("other", 0, 0), ("open", 1, 0), ("open", 1, 1)):
            told = behind(FOUR, narrowing, ("again",), ("where",), ("sums",))
            self.assertEqual(told[2:], [[4, 0, 1, 2, 3], [4, 0, 4, 0, 0]])

    def test_no_cable(self):
        self.assertEqual(behind([("begin",)], ("again",), ("where",), ("sums",)), [[0], [0], [0, 0, 0, 0, 0]])

    def test_a_section_may_come_then(self):
        told = behind(FOUR, ("open", 1, 0), ("section",) + PLAIN, ("again",), ("section",) + PLAIN, ("where",),
                      ("sums",))
        self.assertEqual(told, [[2], [-16], [6], [4], [5, 0, 1, 2, 3, 4], [5, 0, 5, 0, 0]])
        told = behind(FOUR, ("measure", 0, 0), ("section",) + PLAIN, ("again",), ("section",) + PLAIN)
        self.assertEqual(told, [[1], [-16], [0], [4]])

    def test_no_eleventh_then(self):
        told = behind(cable(*[PLAIN] * 10), ("open", 1, 0), ("section",) + PLAIN, ("again",), ("section",) + PLAIN)
        self.assertEqual(told, [[2], [-16], [5], [-28]])

    def test_sections_and_costs_stay(self):
        told = behind(FOUR, ("cost", 1, 99), ("open", 1, 1), ("again",), *[("look", i) for i in range(5)])
        self.assertEqual(told, [[6], [2], [99], [10, 2, 5], [10, 2, 99], [10, 2, 7], [10, 2, 8], [-2]])

    def test_what_was_measured_counts_no_more(self):
        told = behind(FOUR, ("measure", 0, 10), ("measure", 50, 59), ("again",), ("measure", 50, 59), ("where",))
        self.assertEqual(told, [[1], [-33], [0], [1], [1, 2]])


class OneBehindAnother(unittest.TestCase):
    def test_measured_then_opened(self):
        made = cable(*[(10, 2, opens) for opens in (4, 9, 2, 7, 3, 5)])
        told = behind(
            made, ("measure", 30, 120), ("other", 15, 120), ("where",), ("least",), ("first",), ("fewest",),
            ("open", 4, 0), ("section",) + PLAIN, ("where",), ("least",), ("first",), ("would", 2), ("would", 3),
            ("would", 4), ("fewest",), ("spends", 1), ("spends", 2), ("spends", 4), ("spends", 5), ("found",),
            ("sums",))
        self.assertEqual(told[:9], [[5], [5], [5, 1, 2, 3, 4, 5], [12], [2], [3], [4], [-16], [4, 1, 2, 3, 4]])
        self.assertEqual(told[9:15], [[11], [2], [11, 2, 2], [18, 3, 1], [-2], [2]])
        self.assertEqual(told[15:], [[11], [11], [9], [-2], [-33], [6, 1, 5, 1, 3]])

    def test_measured_behind_an_opening(self):
        told = behind(FOUR, ("open", 0, 1), ("measure", 0, 40), ("where",), ("could", 0, 20), ("measure", 0, 19),
                      ("other", 0, 39), ("found",), ("sums",))
        self.assertEqual(told, [[3], [2], [2, 1, 2], [1], [-33], [1], [2], [4, 2, 3, 1, 5]])

    def test_opened_till_it_is_found_then_again_then_a_section(self):
        told = behind(
            FOUR, ("open", 1, 1), ("open", 2, 0), ("found",), ("least",), ("first",), ("fewest",), ("spends", 2),
            ("spends", 3), ("would", 2), ("open", 2, 0), ("section",) + PLAIN, ("again",), ("section",) + PLAIN,
            ("where",), ("sums",), ("first",), ("found",))
        self.assertEqual(told[:9], [[2], [1], [2], [0], [-33], [0], [0], [-2], [-2]])
        self.assertEqual(told[9:], [[-2], [-16], [13], [4], [5, 0, 1, 2, 3, 4], [5, 0, 5, 0, 0], [2], [-33]])

    def test_the_order_of_refusals_of_section_behind_an_opening(self):
        made = cable(*[PLAIN] * 10) + [("open", 0, 1)]
        told = behind(made, ("section", 0, 2, 5), ("section", 1, 101, 5), ("section", 1, 2, 1001), ("section",) + PLAIN)
        self.assertEqual(told, [[-22], [-22], [-22], [-16]])

    def test_begin_behind_all_of_that(self):
        told = behind(
            FOUR, ("measure", 0, 50), ("open", 0, 1), ("begin",), ("sums",), ("where",), ("found",), ("metres",),
            ("look", 0), ("section", 3, 4, 5), ("sums",), ("found",), ("look", 0), ("again",), ("begin",), ("again",),
            ("sums",))
        self.assertEqual(told[:8], [[3], [2], [0], [0, 0, 0, 0, 0], [0], [-33], [0, 0], [-2]])
        self.assertEqual(told[8:], [[0], [1, 0, 1, 0, 0], [0], [3, 4, 5], [0], [0], [0], [0, 0, 0, 0, 0]])

    def test_before_a_begin(self):
        calls = [("fewest",), ("spends", 0), ("open", 0, 0), ("open", TOP, TOP), ("found",), ("again",), ("metres",),
                 ("resist", TOP), ("point", 0), ("point", TOP), ("look", 0), ("sums",)]
        self.assertEqual(run(*calls, ("begin",), ("sums",)), [[-11]] * 12 + [[0], [0, 0, 0, 0, 0]])


if __name__ == "__main__":
    unittest.main()
