"""The whole program: held against a plain model, what holds, and that a refusal changes nothing."""

import functools
import itertools
import unittest

from tests.helper import NUMBERS, TOP, behind, cable, last, run, state


@functools.lru_cache(maxsize=None)
def ways(low, high):
    """Each way to find it, as what it opens for a fault in each section from low to high."""
    if high - low < 2:
        return [((),) * (high - low)]
    return [tuple((i,) + more for more in up + on)
            for i in range(low, high - 1) for up in ways(low, i + 1) for on in ways(i + 1, high)]


@functools.lru_cache(maxsize=None)
def cheapest(prices, low, high):
    """What the best way costs at the worst, and by where it opens first the same; all ways are tried."""
    by_first = {}
    for way in ways(low, high):
        if way and way[0]:
            worst = max(sum(prices[i] for i in openings) for openings in way)
            by_first[way[0][0]] = min(worst, by_first.get(way[0][0], worst))
    return min(by_first.values(), default=0), by_first


class Model:
    """What the document says, in its words: the sections in which it may be are a plain set."""

    def __init__(self):
        self.begun = False

    def answer(self, name, *given):
        if name != "begin" and not self.begun:
            return [-11]
        told = getattr(self, "call_" + name)(*given)
        return told if isinstance(told, list) else [told]

    def low(self):
        return min(self.may, default=0)

    def high(self):
        return max(self.may, default=-1) + 1

    def has(self, i):
        return self.sections[i][0] * self.sections[i][1]

    def near(self, i, end):
        return sum(self.has(k) for k in range(len(self.sections)) if (k > i if end else k < i))

    def met(self, lo, hi, end):
        return {i for i in self.may if self.near(i, end) <= hi and self.near(i, end) + self.has(i) >= lo}

    def openable(self, i):
        return i in self.may and i + 1 in self.may

    def prices(self):
        return tuple(s[2] for s in self.sections)

    def call_begin(self):
        self.begun, self.sections, self.may, self.opened, self.spent = True, [], set(), 0, 0
        return 0

    def call_section(self, metres, each, opens):
        if not (1 <= metres <= 1000 and each <= 100 and 1 <= opens <= 1000):
            return -22
        if self.opened or len(self.may) != len(self.sections):
            return -16
        if len(self.sections) == 10:
            return -28
        self.may.add(len(self.sections))
        self.sections.append([metres, each, opens])
        return len(self.sections) - 1

    def call_cost(self, i, opens):
        if i >= len(self.sections):
            return -2
        if not 1 <= opens <= 1000:
            return -22
        was, self.sections[i][2] = self.sections[i][2], opens
        return was

    def call_measure(self, lo, hi, end=0):
        if hi < lo:
            return -22
        left = self.met(lo, hi, end)
        self.may = left or self.may
        return len(left) or -33

    def call_other(self, lo, hi):
        return self.call_measure(lo, hi, 1)

    def call_could(self, lo, hi):
        return -22 if hi < lo else len(self.met(lo, hi, 0))

    def call_where(self):
        return [len(self.may)] + sorted(self.may)

    def call_least(self):
        return cheapest(self.prices(), self.low(), self.high())[0]

    def call_first(self):
        least, by_first = cheapest(self.prices(), self.low(), self.high())
        return min([i for i in by_first if by_first[i] == least], default=-33)

    def call_would(self, i):
        if not self.openable(i):
            return -2
        by_first = cheapest(self.prices(), self.low(), self.high())[1]
        return [by_first[i], len([t for t in self.may if t <= i]), len([t for t in self.may if t > i])]

    def call_fewest(self):
        return min(k for k in range(5) if 2 ** k >= len(self.may))

    def call_spends(self, t):
        if t not in self.may:
            return -2
        kept, spent = set(self.may), 0
        while len(self.may) > 1:
            i = self.call_first()
            spent += self.sections[i][2]
            self.may = {k for k in self.may if (k <= i) == (t <= i)}
        self.may = kept
        return spent

    def call_open(self, i, side):
        if not self.openable(i):
            return -2
        if side > 1:
            return -22
        self.may = {t for t in self.may if (t > i) == (side == 1)}
        self.opened += 1
        self.spent += self.sections[i][2]
        return len(self.may)

    def call_found(self):
        return list(self.may)[0] if len(self.may) == 1 else -33

    def call_again(self):
        was, self.may, self.opened, self.spent = self.spent, set(range(len(self.sections))), 0, 0
        return was

    def call_metres(self):
        return [sum(s[0] for s in self.sections), sum(s[0] * s[1] for s in self.sections)]

    def call_resist(self, i):
        return [self.has(i), self.near(i, 0), self.near(i, 1)] if i < len(self.sections) else -2

    def call_point(self, r):
        ends = list(itertools.accumulate([s[1] for s in self.sections for metre in range(s[0])], initial=0))
        return min([m for m, end in enumerate(ends) if end >= r and self.sections], default=-33)

    def call_look(self, i):
        return list(self.sections[i]) if i < len(self.sections) else -2

    def call_sums(self):
        return [len(self.sections), self.low(), self.high(), self.opened, self.spent]


class Dice:
    """The same throws each time, on each Python."""

    def __init__(self, seed):
        self.now = seed

    def throw(self, sides):
        self.now = (self.now * 6364136223846793005 + 1442695040888963407) % 2 ** 64
        return (self.now >> 33) % sides

    def one_of(self, things):
        return things[self.throw(len(things))]


def thrown_number(dice):
    return dice.one_of((0, 1, 2, 3, 5, 9, 10, 11, 100, 101, 1000, 1001, TOP, dice.throw(60), dice.throw(60)))


def thrown_section(dice):
    if dice.throw(12) == 0:
        return ("section", thrown_number(dice), thrown_number(dice), thrown_number(dice))
    return ("section", 1 + dice.throw(5), dice.throw(4), dice.one_of((1, 1, 2, 3, 7, 1000)))


def thrown_call(dice):
    name = dice.one_of(sorted(NUMBERS) + ["open", "open", "measure", "other", "cost", "spends", "would", "sums"])
    if name == "section":
        return thrown_section(dice)
    if name == "begin" and dice.throw(3):
        return ("sums",)
    if name in ("measure", "other", "could"):
        lo = dice.throw(40)
        return (name, lo, lo + dice.throw(40) if dice.throw(10) else thrown_number(dice))
    if name == "open":
        return (name, dice.throw(8), dice.one_of((0, 0, 0, 1, 1, 1, 2, TOP)))
    if name == "cost":
        return (name, dice.throw(8), dice.one_of((1, 2, 3, 9, 1000, 0, 1001)))
    if name == "point":
        return (name, dice.throw(60))
    if name in ("would", "spends", "resist", "look"):
        return (name, dice.throw(8) if dice.throw(10) else thrown_number(dice))
    return (name,)


def thrown_calls(seed):
    dice = Dice(seed)
    calls = [thrown_call(dice) for k in range(dice.throw(3))] + [("begin",)]
    calls += [thrown_section(dice) for k in range(dice.one_of((0, 1, 2, 3, 4, 5, 6, 6, 7, 7, 8)))]
    return calls + [thrown_call(dice) for k in range(80 - len(calls))]


class AgainstTheModel(unittest.TestCase):
    def test_many_lists_of_calls(self):
        seen = set()
        for seed in range(700):
            calls = thrown_calls(seed)
            model = Model()
            wanted = [model.answer(*call) for call in calls]
            told = run(*calls)
            for call, one, two in zip(calls, told, wanted):
                self.assertEqual(one, two, (seed, call, calls))
                seen.add((call[0], min(one[0], 0)))
        # So that the throws don't pass by a call, or a refusal of it.
        due = {"begin": (0,), "section": (0, -22, -16, -28), "cost": (0, -2, -22), "measure": (0, -22, -33),
               "other": (0, -22, -33), "could": (0, -22), "where": (0,), "least": (0,), "first": (0, -33),
               "would": (0, -2), "fewest": (0,), "spends": (0, -2), "open": (0, -2, -22), "found": (0, -33),
               "again": (0,), "metres": (0,), "resist": (0, -2), "point": (0, -33), "look": (0, -2), "sums": (0,)}
        wanted = {(name, code) for name in due for code in due[name]}
        self.assertEqual(seen, wanted | {(name, -11) for name in due if name != "begin"})

    def test_each_call_in_each_state_of_a_small_cable(self):
        # By every two narrowings of one cable, in whatever order, and all there is to be asked then.
        made = cable((2, 1, 5), (3, 0, 2), (1, 3, 4), (2, 2, 1), (1, 1, 3))
        narrowings = [(name, lo, hi) for name in ("measure", "other") for lo in (0, 2, 5, 9) for hi in (1, 2, 5, 9, 10)]
        narrowings += [("open", i, side) for i in range(6) for side in (0, 1, 2)] + [("again",)]
        asked = state(6) + [("least",), ("first",), ("fewest",), ("found",), ("section", 1, 1, 1)]
        asked += [(name, i) for name in ("would", "spends") for i in range(6)]
        for two in itertools.product(narrowings, repeat=2):
            calls = made + list(two) + asked
            model = Model()
            self.assertEqual(run(*calls), [model.answer(*call) for call in calls], two)


class Refusals(unittest.TestCase):
    STATES = (
        [("begin",)],
        cable((10, 2, 5)),
        cable(*[(10, 2, 5 + i) for i in range(4)]),
        cable(*[(10, 2, 5 + i) for i in range(10)]),
        cable(*[(10, 2, 5 + i) for i in range(4)]) + [("measure", 15, 45), ("open", 0, 1)],
        cable(*[(10, 2, 5 + i) for i in range(10)]) + [("open", 6, 0), ("cost", 6, 1), ("other", 120, 160)],
        cable(*[(10, 2, 5 + i) for i in range(4)]) + [("open", 1, 1), ("open", 2, 0)],
        cable(*[(10, 0, 5 + i) for i in range(4)]) + [("open", 1, 1), ("again",)],
    )

    def calls(self):
        numbers = (0, 1, 2, 3, 9, 10, 1000, 1001, TOP)
        for name in NUMBERS:
            size = {"section": 3, "cost": 2, "measure": 2, "other": 2, "could": 2, "open": 2, "would": 1, "spends": 1,
                    "resist": 1, "point": 1, "look": 1}.get(name, 0)
            for given in itertools.product(numbers, repeat=size):
                yield (name,) + given

    def test_a_refusal_is_its_number_alone_and_changes_nothing(self):
        asked = [("sums",), ("where",)] + [("look", i) for i in (0, 1, 3, 9)] + [("least",), ("found",), ("metres",)]
        for made in self.STATES:
            before = behind(made, *asked)
            for call in self.calls():
                told = behind(made, call, *asked)
                if told[0][0] < 0:
                    self.assertEqual(len(told[0]), 1)
                    self.assertEqual(told[1:], before, (made, call))
                else:
                    self.assertTrue(all(n >= 0 for n in told[0]))

    def test_asking_changes_nothing(self):
        asking = [name for name in NUMBERS if name not in ("begin", "section", "cost", "measure", "other", "open",
                                                          "again")]
        for made in self.STATES:
            before = behind(made, *state(4))
            for call in self.calls():
                if call[0] in asking:
                    self.assertEqual(behind(made, call, *state(4))[1:], before, (made, call))


def priced(opens):
    return cable(*[(5, 2, o) for o in opens])


class WhatHolds(unittest.TestCase):
    LISTS = [list(opens) for n in range(1, 6) for opens in itertools.product((1, 4, 9), repeat=n)] + [
        [3, 1, 4, 1, 5, 9, 2, 6, 5, 3], [1000, 1, 1000, 1, 1000, 1, 1000, 1, 1000, 1], [7] * 10,
        [1, 2, 4, 8, 16, 32, 64, 128, 256, 512], [1] * 9 + [1000], [1000] + [1] * 9]

    def test_found_for_no_more_than_told_and_for_that_somewhere(self):
        for opens in self.LISTS:
            told = behind(priced(opens), ("least",), *[("spends", t) for t in range(len(opens))])
            self.assertEqual(max(told[1:]), told[0], opens)

    def test_no_way_spends_less_at_the_worst(self):
        for opens in self.LISTS:
            best = min(max(sum(opens[i] for i in path) for path in way) for way in ways(0, len(opens)))
            self.assertEqual(last(priced(opens), ("least",)), [best], opens)

    def test_whatever_each_opening_tells(self):
        # Who opens elsewhere than told pays no less, if the dearer side is told each time.
        for opens in ([3, 1, 4, 1, 5, 9], [9, 1, 1, 9, 1, 1], [2, 2, 2, 2, 2, 2]):
            least = last(priced(opens), ("least",))[0]
            for i in range(5):
                sides = [behind(priced(opens), ("open", i, side), ("least",), ("sums",)) for side in (0, 1)]
                worst = max(told[1][0] + told[2][4] for told in sides)
                self.assertEqual([worst], last(priced(opens), ("would", i))[:1])
                self.assertGreaterEqual(worst, least)

    def test_alike_as_many_as_one_must_double_one(self):
        for n in range(1, 11):
            doubled, count = 1, 0
            while doubled < n:
                doubled, count = 2 * doubled, count + 1
            for price in (1, 8, 1000):
                told = behind(priced([price] * n), ("fewest",), ("least",))
                self.assertEqual(told, [[count], [count * price]])

    def test_the_order_of_measurements_does_not_matter(self):
        made = cable((2, 5, 3), (1, 0, 9), (4, 5, 1), (3, 5, 7), (1, 0, 2), (2, 5, 5))
        calls = [("measure", 10, 40), ("other", 15, 45), ("measure", 5, 29), ("other", 20, 55)]
        asked = state(6) + [("least",), ("first",), ("fewest",)] + [("spends", t) for t in range(6)]
        wanted = behind(made, *calls, *asked)[4:]
        self.assertEqual(wanted[1], [3, 0, 1, 2])
        for order in itertools.permutations(calls):
            self.assertEqual(behind(made, *order, *asked)[4:], wanted)

    def test_openings_and_measurements_in_either_order(self):
        made = cable(*[(5, 2, 3)] * 6)
        for i, side, lo in itertools.product(range(5), (0, 1), range(0, 61, 5)):
            there = behind(made, ("open", i, side), ("measure", lo, lo + 15), ("where",))
            back = behind(made, ("measure", lo, lo + 15), ("open", i, side), ("where",))
            if there[1][0] > 0 and back[1][0] > 0:
                self.assertEqual(there[2], back[2])

    def test_known_more_is_never_dearer(self):
        for opens in ([3, 1, 4, 1, 5, 9, 2, 6], [9, 1, 1, 9, 1, 1, 9, 1], [5] * 8):
            made = priced(opens)
            for one in [("measure", 10 * k, 10 * k + 30) for k in range(6)] + [("open", k, 0) for k in range(1, 7)]:
                before = behind(made, one, ("least",), ("fewest",))
                for two in [(name, 10 * k + 5, TOP) for name in ("measure", "other") for k in range(8)]:
                    after = behind(made, one, two, ("least",), ("fewest",))
                    self.assertLessEqual(after[2], before[1])
                    self.assertLessEqual(after[3], before[2])

    def test_a_fault_that_is_measured_rightly_is_never_lost(self):
        parts = [(2, 5), (1, 0), (4, 5), (3, 5), (1, 0), (2, 5)]
        made = cable(*[part + (3,) for part in parts])
        for t in range(6):
            own, ahead, behind_it = last(made, ("resist", t))
            for p in range(own + 1):
                calls = [("measure", ahead + p, ahead + p), ("other", behind_it + own - p, behind_it + own - p)]
                while last(made, *calls, ("first",)) != [-33]:
                    i = last(made, *calls, ("first",))[0]
                    calls.append(("open", i, 0 if t <= i else 1))
                self.assertEqual(last(made, *calls, ("found",)), [t])


class Corners(unittest.TestCase):
    def test_sections_without_resistance(self):
        made = cable((10, 0, 5), (3, 0, 4), (2, 0, 9))
        told = behind(made, ("measure", 0, 0), ("metres",), ("resist", 1), ("point", 0), ("point", 1),
                      ("measure", 1, 1), ("first",), ("least",), ("open", 1, 1), ("found",), ("sums",))
        self.assertEqual(told, [[3], [15, 0], [0, 0, 0], [0], [-33], [-33], [0], [9], [1], [2], [3, 2, 3, 1, 4]])

    def test_a_fault_just_between_two(self):
        made = cable((10, 2, 5), (10, 2, 6), (10, 2, 7))
        told = behind(made, ("measure", 40, 40), ("where",), ("found",), ("point", 40), ("fewest",), ("least",),
                      ("spends", 1), ("spends", 2), ("open", 1, 1), ("found",))
        self.assertEqual(told, [[2], [2, 1, 2], [-33], [20], [1], [6], [6], [6], [1], [2]])

    def test_one_section(self):
        told = behind(cable((10, 2, 5)), ("where",), ("found",), ("least",), ("first",), ("fewest",), ("spends", 0),
                      ("would", 0), ("open", 0, 0), ("sums",), ("resist", 0), ("measure", 20, 20), ("section", 1, 1, 1))
        self.assertEqual(told, [[1, 0], [0], [0], [-33], [0], [0], [-2], [-2], [1, 0, 1, 0, 0], [20, 0, 0], [1], [1]])

    def test_a_section_that_is_very_dear_to_open(self):
        # It's opened at 0 only where nothing else tells the two up to there apart.
        told = behind(priced([1000, 1, 1, 1, 1]), ("first",), ("least",), ("fewest",),
                      *[("spends", t) for t in range(5)])
        self.assertEqual(told, [[1], [1001], [3], [1001], [1001], [2], [3], [3]])
        told = behind(priced([1, 1, 1000, 1, 1]), ("open", 2, 0), ("sums",), ("cost", 2, 1), ("again",), ("least",))
        self.assertEqual(told, [[3], [5, 0, 3, 1, 1000], [1000], [1000], [3]])

    def test_a_measurement_of_just_one_number(self):
        made = cable((10, 2, 5), (10, 2, 6), (10, 2, 7))
        for number, left in ((0, [0]), (1, [0]), (20, [0, 1]), (21, [1]), (40, [1, 2]), (60, [2])):
            told = behind(made, ("could", number, number), ("measure", number, number), ("where",))
            self.assertEqual(told, [[len(left)], [len(left)], [len(left)] + left])
        self.assertEqual(behind(made, ("measure", 61, 61), ("other", 61, 61), ("could", 61, 61)), [[-33], [-33], [0]])

    def test_two_measurements_that_contradict(self):
        made = cable((10, 2, 5), (10, 2, 6), (10, 2, 7))
        told = behind(made, ("measure", 0, 30), ("other", 0, 10), ("sums",), ("where",), ("open", 0, 0),
                      ("measure", 30, 60), ("found",), ("again",), ("other", 0, 10), ("found",))
        self.assertEqual(told, [[2], [-33], [3, 0, 2, 0, 0], [2, 0, 1], [1], [-33], [0], [5], [1], [2]])

    def test_ten_sections_alike(self):
        told = behind(priced([4] * 10), ("where",), ("fewest",), ("least",), ("first",), ("open", 1, 1), ("fewest",),
                      ("least",), ("first",), ("open", 5, 0), ("first",), ("open", 3, 0), ("first",), ("open", 2, 1),
                      ("found",), ("sums",))
        self.assertEqual(told[:8], [[10] + list(range(10)), [4], [16], [1], [8], [3], [12], [5]])
        self.assertEqual(told[8:], [[4], [3], [2], [2], [1], [3], [10, 3, 4, 4, 16]])

    def test_no_cable(self):
        calls = [("cost", 0, 5), ("measure", 0, 1), ("other", 0, 1), ("could", 0, 1), ("where",), ("least",),
                 ("first",), ("would", 0), ("fewest",), ("spends", 0), ("open", 0, 0), ("found",), ("again",),
                 ("metres",), ("resist", 0), ("point", 0), ("look", 0), ("sums",)]
        told = behind([("begin",)], *calls)
        self.assertEqual(told[:9], [[-2], [-33], [-33], [0], [0], [0], [-33], [-2], [0]])
        self.assertEqual(told[9:], [[-2], [-2], [-33], [0], [0, 0], [-2], [-33], [-2], [0, 0, 0, 0, 0]])


if __name__ == "__main__":
    unittest.main()
