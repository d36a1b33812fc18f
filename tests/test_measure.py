"""Promise 2: measure, other, could, where."""

import itertools
import unittest

from tests.helper import TOP, behind, cable, last

# 20, 0, 30, 0, 0, 10: from end 0 they begin at 0, 20, 20, 50, 50, 50 and end at 60.
MIXED = cable((10, 2, 5), (7, 0, 5), (10, 3, 5), (1, 0, 5), (9, 0, 5), (5, 2, 5))
THREE = cable((10, 2, 5), (10, 2, 6), (10, 2, 7))


def spots(parts, other=False):
    """For each section, from where to where in the cable it lies, seen from one end."""
    parts = parts[::-1] if other else parts
    ends = list(itertools.accumulate(parts, initial=0))
    found = list(zip(ends, ends[1:]))
    return found[::-1] if other else found


def met(spot, lo, hi):
    """Whether some whole number that was measured lies in the section, its ends with it."""
    return any(lo <= p <= hi for p in range(spot[0], spot[1] + 1))


def small_cables():
    for n in range(1, 5):
        yield from itertools.product((0, 1, 3), repeat=n)


def spans(top):
    return [(lo, hi) for lo in range(top + 1) for hi in range(lo, top + 1)]


def of(parts):
    return cable(*[(max(p, 1), min(p, 1), 5) for p in parts])


class Measure(unittest.TestCase):
    def check(self, call, made, lo, hi, left):
        told = behind(made, (call, lo, hi), ("where",))
        self.assertEqual(told, [[len(left)], [len(left)] + left])

    def test_ordinary_ones(self):
        self.check("measure", THREE, 5, 15, [0])
        self.check("measure", THREE, 21, 39, [1])
        self.check("measure", THREE, 30, 45, [1, 2])
        self.check("measure", THREE, 0, 60, [0, 1, 2])
        self.check("measure", THREE, 41, TOP, [2])
        self.check("measure", THREE, 0, TOP, [0, 1, 2])

    def test_just_between_two(self):
        self.check("measure", THREE, 20, 20, [0, 1])
        self.check("measure", THREE, 40, 40, [1, 2])
        self.check("measure", THREE, 19, 19, [0])
        self.check("measure", THREE, 21, 21, [1])
        self.check("measure", THREE, 15, 20, [0, 1])
        self.check("measure", THREE, 20, 25, [0, 1])

    def test_at_the_cables_ends(self):
        self.check("measure", THREE, 0, 0, [0])
        self.check("measure", THREE, 60, 60, [2])
        self.check("measure", THREE, 60, TOP, [2])
        self.check("other", THREE, 0, 0, [2])
        self.check("other", THREE, 60, 60, [0])

    def test_sections_without_resistance(self):
        self.check("measure", MIXED, 20, 20, [0, 1, 2])
        self.check("measure", MIXED, 50, 50, [2, 3, 4, 5])
        self.check("measure", MIXED, 51, 51, [5])
        self.check("measure", MIXED, 19, 19, [0])
        self.check("measure", MIXED, 21, 49, [2])
        self.check("other", MIXED, 10, 10, [2, 3, 4, 5])
        self.check("other", MIXED, 40, 40, [0, 1, 2])
        nothing = cable(*[(10, 0, 5)] * 4)
        self.check("measure", nothing, 0, 0, [0, 1, 2, 3])
        self.check("other", nothing, 0, 9, [0, 1, 2, 3])
        self.assertEqual(behind(nothing, ("measure", 1, 1), ("other", 1, 1), ("could", 1, 1)), [[-33], [-33], [0]])

    def test_from_the_other_end_what_is_behind_counts(self):
        unlike = cable((10, 1, 5), (20, 1, 5), (30, 1, 5))
        self.check("other", unlike, 0, 29, [2])
        self.check("other", unlike, 30, 30, [1, 2])
        self.check("other", unlike, 31, 49, [1])
        self.check("other", unlike, 50, 50, [0, 1])
        self.check("other", unlike, 51, 60, [0])
        self.check("measure", unlike, 51, 60, [2])

    def test_one_section(self):
        one = cable((10, 2, 5))
        self.check("measure", one, 0, 0, [0])
        self.check("measure", one, 20, 20, [0])
        self.check("other", one, 20, 20, [0])
        self.assertEqual(behind(one, ("measure", 21, 21), ("other", 21, 21)), [[-33], [-33]])

    def test_hi_less_than_lo(self):
        for call in ("measure", "other", "could"):
            told = behind(THREE, (call, 1, 0), (call, TOP, 0), (call, TOP, TOP - 1), (call, 30, 29), ("where",))
            self.assertEqual(told, [[-22]] * 4 + [[3, 0, 1, 2]])

    def test_hi_less_than_lo_is_named_first(self):
        self.assertEqual(behind(THREE, ("measure", 90, 80), ("other", 90, 80)), [[-22], [-22]])
        self.assertEqual(behind([("begin",)], ("measure", 1, 0), ("other", 1, 0), ("could", 1, 0)), [[-22]] * 3)

    def test_beyond_the_cable(self):
        told = behind(THREE, ("measure", 61, 61), ("measure", 61, TOP), ("other", 61, TOP), ("could", 61, TOP),
                      ("where",))
        self.assertEqual(told, [[-33], [-33], [-33], [0], [3, 0, 1, 2]])

    def test_two_that_contradict(self):
        for one, two in [(("measure", 0, 10), ("measure", 50, 60)), (("measure", 50, 60), ("measure", 0, 10)),
                         (("other", 0, 10), ("measure", 0, 10)), (("measure", 0, 10), ("other", 0, 10))]:
            told = behind(THREE, one, ("where",), two, ("where",), one)
            self.assertEqual(told, [[1], told[1], [-33], told[1], [1]])

    def test_no_cable(self):
        told = behind([("begin",)], ("measure", 0, 0), ("other", 0, TOP), ("could", 0, TOP), ("where",))
        self.assertEqual(told, [[-33], [-33], [0], [0]])

    def test_it_narrows_where_it_may_be_already(self):
        told = behind(THREE, ("measure", 15, 35), ("where",), ("other", 0, 35), ("where",), ("measure", 0, 60),
                      ("where",))
        self.assertEqual(told, [[2], [2, 0, 1], [1], [1, 1], [1], [1, 1]])

    def test_each_small_cable(self):
        for parts in small_cables():
            whole = list(range(len(parts)))
            for lo, hi in spans(sum(parts) + 1):
                for call, seen in (("measure", spots(parts)), ("other", spots(parts, True))):
                    left = [i for i, spot in enumerate(seen) if met(spot, lo, hi)]
                    told = behind(of(parts), (call, lo, hi), ("where",))
                    wanted = [[len(left)], [len(left)] + left] if left else [[-33], [len(whole)] + whole]
                    self.assertEqual(told, wanted, (parts, call, lo, hi))

    def test_a_fault_that_is_measured_rightly_is_never_lost(self):
        for parts in small_cables():
            total = sum(parts)
            for i, (begin, end) in enumerate(spots(parts)):
                for p in range(begin, end + 1):
                    calls = [("measure", p, p + 1), ("other", total - p, total - p), ("measure", max(p - 1, 0), p),
                             ("other", max(total - p - 1, 0), total), ("where",)]
                    self.assertIn(i, last(of(parts), *calls)[1:], (parts, i, p))

    def test_the_order_does_not_matter(self):
        calls = [("measure", 5, 35), ("other", 20, 45), ("measure", 20, 60), ("other", 10, 60)]
        told = {tuple(last(MIXED, *order, ("where",))) for order in itertools.permutations(calls)}
        self.assertEqual(told, {(3, 0, 1, 2)})

    def test_the_order_does_not_matter_in_small_cables(self):
        for parts in itertools.product((0, 1, 2), repeat=3):
            for one, two in itertools.product(spans(sum(parts)), repeat=2):
                calls = [("measure",) + one, ("other",) + two]
                there = behind(of(parts), *calls, ("where",))
                back = behind(of(parts), *calls[::-1], ("where",))
                self.assertEqual(there[1] == [-33], back[1] == [-33])
                if there[1] != [-33]:
                    self.assertEqual(there[2], back[2], (parts, calls))


class Could(unittest.TestCase):
    def test_how_many_and_nothing_is_measured(self):
        told = behind(THREE, ("could", 20, 20), ("could", 0, 0), ("could", 0, 60), ("could", 61, 61), ("where",))
        self.assertEqual(told, [[2], [1], [3], [0], [3, 0, 1, 2]])

    def test_only_where_it_may_be_already(self):
        made = THREE + [("measure", 25, 60)]
        told = behind(made, ("could", 20, 20), ("could", 0, 60), ("could", 0, 10), ("where",))
        self.assertEqual(told, [[1], [2], [0], [2, 1, 2]])

    def test_from_end_0(self):
        unlike = cable((10, 1, 5), (20, 1, 5), (30, 1, 5))
        self.assertEqual(behind(unlike, ("could", 0, 9), ("measure", 0, 9), ("where",)), [[1], [1], [1, 0]])
        self.assertEqual(behind(unlike, ("could", 0, 29), ("could", 31, 60)), [[2], [1]])

    def test_it_is_what_measure_tells_then(self):
        for parts in small_cables():
            for lo, hi in spans(sum(parts) + 1):
                told = behind(of(parts), ("could", lo, hi), ("measure", lo, hi))
                self.assertEqual(told[1], told[0] if told[0] != [0] else [-33])


class Where(unittest.TestCase):
    def test_how_many_then_they_rising(self):
        self.assertEqual(last(THREE, ("where",)), [3, 0, 1, 2])
        self.assertEqual(last(cable(*[(1, 1, 1)] * 10), ("where",)), [10] + list(range(10)))
        self.assertEqual(last(MIXED, ("measure", 50, 50), ("where",)), [4, 2, 3, 4, 5])

    def test_none(self):
        self.assertEqual(last([("begin",)], ("where",)), [0])

    def test_it_changes_nothing(self):
        self.assertEqual(behind(THREE, ("where",), ("where",), ("least",)), [[3, 0, 1, 2]] * 2 + [[11]])


if __name__ == "__main__":
    unittest.main()
