"""Promise 4: metres, resist, point, look, sums."""

import itertools
import unittest

from tests.helper import TOP, behind, cable, last, state

# They have 20, 0, 21, 0, 10.
MIXED = cable((10, 2, 5), (4, 0, 6), (7, 3, 7), (9, 0, 8), (1, 10, 9))


class Metres(unittest.TestCase):
    def test_how_many_then_all_resistance(self):
        self.assertEqual(last(MIXED, ("metres",)), [31, 51])
        self.assertEqual(last(cable((10, 2, 5)), ("metres",)), [10, 20])
        self.assertEqual(last(cable((10, 0, 5), (3, 0, 5)), ("metres",)), [13, 0])

    def test_no_cable(self):
        self.assertEqual(last([("begin",)], ("metres",)), [0, 0])

    def test_the_most(self):
        self.assertEqual(last(cable(*[(1000, 100, 1000)] * 10), ("metres",)), [10000, 1000000])

    def test_all_of_them_wherever_the_fault_may_be(self):
        self.assertEqual(behind(MIXED, ("measure", 0, 0), ("metres",)), [[1], [31, 51]])
        self.assertEqual(behind(MIXED, ("open", 2, 1), ("metres",)), [[2], [31, 51]])

    def test_it_grows_with_each_section(self):
        told = behind([("begin",)], ("section", 3, 4, 5), ("metres",), ("section", 6, 7, 8), ("metres",))
        self.assertEqual(told, [[0], [3, 12], [1], [9, 54]])


class Resist(unittest.TestCase):
    def test_its_own_then_ahead_then_behind(self):
        told = behind(MIXED, *[("resist", i) for i in range(5)])
        self.assertEqual(told, [[20, 0, 31], [0, 20, 31], [21, 20, 10], [0, 41, 10], [10, 41, 0]])

    def test_one_section(self):
        self.assertEqual(last(cable((7, 9, 1)), ("resist", 0)), [63, 0, 0])

    def test_no_such_section(self):
        self.assertEqual(behind(MIXED, ("resist", 5), ("resist", 10), ("resist", TOP)), [[-2]] * 3)
        self.assertEqual(behind([("begin",)], ("resist", 0), ("resist", TOP)), [[-2]] * 2)

    def test_also_where_the_fault_may_not_be(self):
        self.assertEqual(behind(MIXED, ("open", 2, 1), ("resist", 0), ("resist", 4)), [[2], [20, 0, 31], [10, 41, 0]])

    def test_the_most(self):
        told = behind(cable(*[(1000, 100, 1)] * 10), ("resist", 0), ("resist", 9))
        self.assertEqual(told, [[100000, 0, 900000], [100000, 900000, 0]])

    def test_the_three_are_all_there_is(self):
        for parts in itertools.product((0, 1, 3), repeat=4):
            told = behind(cable(*[(2, p, 1) for p in parts]), ("metres",), *[("resist", i) for i in range(4)])
            self.assertEqual({sum(t) for t in told[1:]}, {told[0][1]})
            self.assertEqual([t[0] for t in told[1:]], [2 * p for p in parts])
            self.assertEqual([t[1] for t in told[1:]], [2 * sum(parts[:i]) for i in range(4)])


class Point(unittest.TestCase):
    def check(self, made, **wanted):
        for r, metres in wanted.items():
            self.assertEqual(last(made, ("point", int(r[1:]))), [metres], r)

    def test_up_to_a_metres_end(self):
        self.check(MIXED, r1=1, r2=1, r3=2, r4=2, r19=10, r20=10)

    def test_in_a_later_section_those_before_it_count(self):
        self.check(MIXED, r21=15, r22=15, r23=15, r24=16, r40=21, r41=21)
        self.check(MIXED, r42=31, r50=31, r51=31)

    def test_just_between_two_it_is_the_first(self):
        self.check(cable((10, 2, 5), (10, 3, 5)), r20=10, r21=11, r23=11, r24=12)

    def test_nothing(self):
        self.check(MIXED, r0=0)
        self.check(cable((9, 0, 5), (10, 2, 5)), r0=0)

    def test_sections_without_resistance_ahead(self):
        self.check(cable((9, 0, 5), (3, 0, 5), (10, 2, 5)), r0=0, r1=13, r2=13, r3=14, r20=22)

    def test_nothing_but_sections_without_resistance(self):
        made = cable((9, 0, 5), (3, 0, 5))
        self.assertEqual(behind(made, ("point", 0), ("point", 1), ("point", TOP)), [[0], [-33], [-33]])

    def test_more_than_all(self):
        told = behind(MIXED, ("point", 52), ("point", TOP), ("point", 51))
        self.assertEqual(told, [[-33], [-33], [31]])

    def test_no_sections(self):
        self.assertEqual(behind([("begin",)], ("point", 0), ("point", 1), ("point", TOP)), [[-33]] * 3)

    def test_the_most(self):
        self.check(cable(*[(1000, 100, 1)] * 10), r1000000=10000, r999901=10000, r999900=9999, r100001=1001)

    def test_all_of_it_wherever_the_fault_may_be(self):
        told = behind(MIXED, ("open", 2, 1), ("point", 3), ("again",), ("measure", 0, 0), ("point", 51))
        self.assertEqual(told, [[2], [2], [7], [1], [31]])

    def test_counted_metre_by_metre(self):
        for parts in itertools.product(((1, 0), (2, 0), (1, 1), (2, 3), (3, 2)), repeat=3):
            metres = [each for many, each in parts for metre in range(many)]
            ends = list(itertools.accumulate(metres, initial=0))
            made = cable(*[part + (1,) for part in parts])
            wanted = [[min([m for m, end in enumerate(ends) if end >= r], default=-33)] for r in range(ends[-1] + 3)]
            self.assertEqual(behind(made, *[("point", r) for r in range(ends[-1] + 3)]), wanted, parts)


class Look(unittest.TestCase):
    def test_what_it_was_made_of(self):
        told = behind(MIXED, *[("look", i) for i in range(5)])
        self.assertEqual(told, [[10, 2, 5], [4, 0, 6], [7, 3, 7], [9, 0, 8], [1, 10, 9]])

    def test_no_such_section(self):
        self.assertEqual(behind(MIXED, ("look", 5), ("look", 10), ("look", TOP)), [[-2]] * 3)
        self.assertEqual(behind([("begin",)], ("look", 0), ("look", TOP)), [[-2]] * 2)

    def test_what_it_costs_now(self):
        told = behind(MIXED, ("cost", 1, 900), ("look", 1), ("cost", 1, 0), ("look", 1), ("look", 0))
        self.assertEqual(told, [[6], [4, 0, 900], [-22], [4, 0, 900], [10, 2, 5]])

    def test_also_where_the_fault_may_not_be(self):
        self.assertEqual(behind(MIXED, ("open", 2, 1), ("look", 0), ("look", 4)), [[2], [10, 2, 5], [1, 10, 9]])


class Sums(unittest.TestCase):
    def test_no_cable(self):
        self.assertEqual(last([("begin",)], ("sums",)), [0, 0, 0, 0, 0])

    def test_the_first_and_the_one_behind_the_last(self):
        self.assertEqual(last(MIXED, ("sums",)), [5, 0, 5, 0, 0])
        self.assertEqual(behind(MIXED, ("measure", 20, 20), ("sums",)), [[3], [5, 0, 3, 0, 0]])
        self.assertEqual(behind(MIXED, ("measure", 21, 41), ("sums",)), [[3], [5, 2, 5, 0, 0]])
        self.assertEqual(behind(MIXED, ("measure", 42, 42), ("sums",)), [[1], [5, 4, 5, 0, 0]])

    def test_openings_and_what_they_cost(self):
        told = behind(MIXED, ("open", 3, 0), ("sums",), ("open", 0, 1), ("sums",), ("open", 2, 1), ("sums",))
        self.assertEqual(told, [[4], [5, 0, 4, 1, 8], [3], [5, 1, 4, 2, 13], [1], [5, 3, 4, 3, 20]])

    def test_what_is_only_asked_is_not_spent(self):
        asked = [("least",), ("first",), ("would", 1), ("fewest",), ("spends", 2), ("could", 3, 4), ("found",)]
        self.assertEqual(last(MIXED, *asked, ("sums",)), [5, 0, 5, 0, 0])

    def test_they_change_nothing(self):
        asked = state(5) + [("resist", 3), ("resist", 9), ("point", 33), ("point", 99), ("look", 9)]
        told = behind(MIXED, ("open", 3, 0), *asked, *asked)
        self.assertEqual(told[1:1 + len(asked)], told[1 + len(asked):])


if __name__ == "__main__":
    unittest.main()
