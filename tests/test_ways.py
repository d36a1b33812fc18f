"""Promise 3: least, first, would, fewest, spends; held against a plain search of all ways."""

import functools
import itertools
import unittest

from tests.helper import TOP, behind, cable, last, state


@functools.lru_cache(maxsize=None)
def ways(low, high):
    """Each way to find it from low to high: None, or where to open first and how on either side."""
    if high - low < 2:
        return [None]
    return [(i, up, on) for i in range(low, high - 1) for up in ways(low, i + 1) for on in ways(i + 1, high)]


def spent(way, opens, fault):
    total = 0
    while way is not None:
        total += opens[way[0]]
        way = way[1] if fault <= way[0] else way[2]
    return total


def worst(way, opens, low, high):
    return max([spent(way, opens, fault) for fault in range(low, high)], default=0)


def searched(opens, low=0, high=None):
    """What is the least, and the least for each section that may be opened first."""
    high = len(opens) if high is None else high
    by_first = {}
    least = 0 if high - low < 2 else None
    for way in ways(low, high):
        if way is not None:
            cost = worst(way, opens, low, high)
            by_first[way[0]] = min(cost, by_first.get(way[0], cost))
            least = cost if least is None else min(least, cost)
    return least, by_first


def best_way(opens, low, high):
    """Of all ways the cheapest, of like ones the one that opens first at the lesser section, and so on either side."""
    if high - low < 2:
        return None
    by_first = searched(opens, low, high)[1]
    i = min(by_first, key=lambda i: (by_first[i], i))
    return i, best_way(opens, low, i + 1), best_way(opens, i + 1, high)


def narrowed(opens, low, high):
    """A cable in which the fault may be from low to high alone."""
    return of(opens) + ([("measure", 10 * low + 1, 10 * high - 1)] if (low, high) != (0, len(opens)) else [])


def of(opens):
    """Each section has 10."""
    return cable(*[(5, 2, o) for o in opens])


class Ways(unittest.TestCase):
    def check(self, opens, low=0, high=None):
        high = len(opens) if high is None else high
        least, by_first = searched(opens, low, high)
        goal = min([i for i in by_first if by_first[i] == least], default=-33)
        made = narrowed(opens, low, high)
        told = behind(made, ("least",), ("first",), *[("would", i) for i in range(len(opens) + 1)])
        would = [[by_first[i], i + 1 - low, high - i - 1] if i in by_first else [-2] for i in range(len(opens) + 1)]
        self.assertEqual(told, [[least], [goal]] + would, (opens, low, high))

    def test_no_section(self):
        told = behind([("begin",)], ("least",), ("first",), ("would", 0), ("would", TOP))
        self.assertEqual(told, [[0], [-33], [-2], [-2]])

    def test_one(self):
        self.assertEqual(behind(of([7]), ("least",), ("first",), ("would", 0), ("would", 1)), [[0], [-33], [-2], [-2]])

    def test_two(self):
        told = behind(of([7, 9]), ("least",), ("first",), ("would", 0), ("would", 1), ("would", 2))
        self.assertEqual(told, [[7], [0], [7, 1, 1], [-2], [-2]])

    def test_three(self):
        told = behind(of([7, 9, 1]), ("least",), ("first",), ("would", 0), ("would", 1), ("would", 2))
        self.assertEqual(told, [[16], [0], [16, 1, 2], [16, 2, 1], [-2]])

    def test_ten_alike(self):
        told = behind(of([1] * 10), ("least",), ("first",), ("would", 0), ("would", 1), ("would", 4), ("would", 8))
        self.assertEqual(told, [[4], [1], [5, 1, 9], [4, 2, 8], [4, 5, 5], [5, 9, 1]])
        self.check([1000] * 10)

    def test_alike_as_many_as_one_must_double(self):
        for n in range(1, 11):
            doubled = (n - 1).bit_length()
            self.assertEqual(last(of([3] * n), ("least",)), [3 * doubled])

    def test_ten_unlike(self):
        self.check([3, 1, 4, 1, 5, 9, 2, 6, 5, 3])
        self.check([1, 2, 3, 4, 5, 6, 7, 8, 9, 10])
        self.check([10, 9, 8, 7, 6, 5, 4, 3, 2, 1])
        self.check([1, 2, 4, 8, 16, 32, 64, 128, 256, 512])
        self.check([512, 256, 128, 64, 32, 16, 8, 4, 2, 1])
        self.check([1000, 1, 1000, 1, 1000, 1, 1000, 1, 1000, 1])
        self.check([17, 250, 3, 999, 41, 41, 600, 8, 77, 1000])

    def test_one_that_is_very_dear(self):
        told = behind(of([1, 1000, 1, 1]), ("least",), ("first",), ("would", 0), ("would", 1), ("would", 2))
        self.assertEqual(told, [[1001], [1], [1002, 1, 3], [1001, 2, 2], [1002, 3, 1]])
        for dear in range(10):
            self.check([1] * dear + [1000] + [1] * (9 - dear))

    def test_the_last_ones_cost_does_not_count(self):
        for opens in ([5, 6], [5, 6, 7], [5, 6, 7, 8, 9]):
            dear = opens[:-1] + [1000]
            self.assertEqual(last(of(opens), ("least",)), last(of(dear), ("least",)))

    def test_of_like_ways_the_lesser_section(self):
        self.assertEqual(last(of([5, 5, 5]), ("first",)), [0])
        self.assertEqual(last(of([5, 5, 5, 5]), ("first",)), [1])
        self.assertEqual(last(of([5, 5, 5, 5, 5]), ("first",)), [0])
        self.assertEqual(last(of([9, 4, 9]), ("first",)), [0])

    def test_each_small_cable(self):
        for n in range(1, 7):
            for opens in itertools.product((1, 2, 5), repeat=n - 1):
                self.check(list(opens) + [3])

    def test_where_it_may_be_alone_counts(self):
        opens = [4, 1, 30, 2, 2, 7, 1]
        for low, high in itertools.combinations(range(8), 2):
            self.check(opens, low, high)

    def test_known_more_is_never_dearer(self):
        for opens in ([3, 1, 4, 1, 5, 9, 2, 6], [9, 1, 1, 9, 1, 1, 9, 1]):
            told = {}
            for low, high in itertools.combinations(range(9), 2):
                told[low, high] = last(of(opens), ("measure", 10 * low + 1, 10 * high - 1), ("least",))[0]
            for (a, b), (c, d) in itertools.product(told, repeat=2):
                if a <= c and d <= b:
                    self.assertLessEqual(told[c, d], told[a, b])

    def test_they_change_nothing(self):
        asked = [("least",), ("first",), ("would", 1), ("would", 9), ("where",)]
        told = behind(of([4, 1, 3, 2]), *asked, *asked)
        self.assertEqual(told[:5], told[5:])


class First(unittest.TestCase):
    def test_fewer_than_two_left(self):
        made = of([4, 1, 3, 2])
        self.assertEqual(behind(made, ("measure", 15, 15), ("first",), ("least",)), [[1], [-33], [0]])
        self.assertEqual(behind(made, ("measure", 20, 20), ("first",), ("least",)), [[2], [1], [1]])

    def test_as_they_are_numbered_in_the_cable(self):
        self.assertEqual(behind(of([1, 1, 1, 9, 2, 1]), ("measure", 31, 60), ("first",), ("least",)), [[3], [3], [11]])


class Would(unittest.TestCase):
    def test_no_such_section(self):
        self.assertEqual(behind(of([4, 1, 3]), ("would", 3), ("would", 10), ("would", TOP)), [[-2]] * 3)

    def test_it_may_not_be_there_or_in_none_behind(self):
        made = of([4, 1, 3, 2, 6]) + [("measure", 15, 35)]
        told = behind(made, ("where",), *[("would", i) for i in range(6)])
        self.assertEqual(told, [[3, 1, 2, 3], [-2], [4, 1, 2], [4, 2, 1], [-2], [-2], [-2]])

    def test_one_left(self):
        made = of([4, 1, 3]) + [("measure", 15, 15)]
        self.assertEqual(behind(made, ("would", 0), ("would", 1), ("would", 2)), [[-2]] * 3)


class Fewest(unittest.TestCase):
    def test_as_many_as_one_must_double_one(self):
        told = [last(of([3] * n), ("fewest",)) for n in range(11)]
        self.assertEqual(told, [[0], [0], [1], [2], [2], [3], [3], [3], [3], [4], [4]])

    def test_it_is_what_least_tells_if_each_costs_1(self):
        for n in range(11):
            told = behind(of([1] * n), ("least",), ("fewest",))
            self.assertEqual(told[0], told[1])

    def test_what_each_costs_does_not_count(self):
        for opens in ([1000, 1, 1, 1, 1], [1, 2, 4, 8, 16], [9, 1, 1, 1000, 7]):
            self.assertEqual(last(of(opens), ("fewest",)), [3])
        self.assertEqual(behind(of([1] * 4), ("fewest",), ("cost", 1, 1000), ("fewest",)), [[2], [1], [2]])

    def test_no_way_takes_fewer(self):
        for n in range(1, 9):
            fewest = min(worst(way, [1] * n, 0, n) for way in ways(0, n))
            self.assertEqual(last(of(range(1, n + 1)), ("fewest",)), [fewest])

    def test_where_it_may_be_alone_counts(self):
        opens = [4, 1, 30, 2, 2, 7, 1, 8, 8, 9]
        for low, high in itertools.combinations(range(11), 2):
            self.assertEqual(last(narrowed(opens, low, high), ("fewest",)), [(high - low - 1).bit_length()])

    def test_behind_an_opening(self):
        told = behind(of([5] * 10), ("fewest",), ("open", 4, 0), ("fewest",), ("open", 0, 1), ("fewest",),
                      ("open", 1, 0), ("fewest",), ("again",), ("fewest",))
        self.assertEqual(told, [[4], [5], [3], [4], [2], [1], [0], [15], [4]])


class Spends(unittest.TestCase):
    def check(self, opens, low=0, high=None):
        high = len(opens) if high is None else high
        way = best_way(opens, low, high)
        wanted = [[spent(way, opens, t)] if low <= t < high else [-2] for t in range(len(opens) + 1)]
        told = behind(narrowed(opens, low, high), ("least",), *[("spends", t) for t in range(len(opens) + 1)])
        self.assertEqual(told[1:], wanted, (opens, low, high))
        self.assertEqual(told[0], max(wanted[low:high]), (opens, low, high))

    def test_ordinary_ones(self):
        told = behind(of([7, 9, 1]), ("spends", 0), ("spends", 1), ("spends", 2))
        self.assertEqual(told, [[7], [16], [16]])
        told = behind(of([1, 1000, 1, 1]), *[("spends", t) for t in range(4)])
        self.assertEqual(told, [[1001]] * 4)
        told = behind(of([1] * 10), *[("spends", t) for t in range(10)])
        self.assertEqual(told, [[2], [2]] + [[4]] * 8)

    def test_two(self):
        self.assertEqual(behind(of([7, 9]), ("spends", 0), ("spends", 1), ("spends", 2)), [[7], [7], [-2]])

    def test_one_or_none(self):
        self.assertEqual(behind(of([7]), ("spends", 0), ("spends", 1)), [[0], [-2]])
        self.assertEqual(behind([("begin",)], ("spends", 0), ("spends", TOP)), [[-2], [-2]])

    def test_of_like_ways_the_lesser_section(self):
        self.assertEqual(behind(of([5, 5, 5]), *[("spends", t) for t in range(3)]), [[5], [10], [10]])
        self.assertEqual(behind(of([9, 4, 9]), *[("spends", t) for t in range(3)]), [[9], [13], [13]])
        # Opened at 2 and at 1 first: on the side with three alike the lesser one is opened first again.
        self.assertEqual(behind(of([5] * 7), *[("spends", t) for t in range(7)]), [[10]] + [[15]] * 6)
        told = behind(of([10, 1, 5, 5, 5]), ("first",), *[("spends", t) for t in range(5)])
        self.assertEqual(told, [[1], [11], [11], [6], [11], [11]])

    def test_a_side_that_has_room_goes_its_own_best_way(self):
        # Opened at 3 first; 0, 1, 2 one behind another would spend no more than the other side, but aren't best there.
        told = behind(of([1, 1, 1, 1, 5, 1]), ("first",), *[("spends", t) for t in range(6)])
        self.assertEqual(told, [[3], [3], [3], [3], [3], [6], [6]])

    def test_it_may_not_be_there(self):
        made = of([4, 1, 3, 2, 6]) + [("measure", 15, 35)]
        told = behind(made, ("where",), *[("spends", t) for t in range(6)])
        self.assertEqual(told, [[3, 1, 2, 3], [-2], [1], [4], [4], [-2], [-2]])
        self.assertEqual(behind(made, ("spends", 10), ("spends", TOP)), [[-2], [-2]])

    def test_each_small_cable(self):
        for n in range(1, 6):
            for opens in itertools.product((1, 2, 3, 7), repeat=n - 1):
                self.check(list(opens) + [3])

    def test_ten(self):
        for opens in ([1] * 10, [1000] * 10, [3, 1, 4, 1, 5, 9, 2, 6, 5, 3], [1, 2, 4, 8, 16, 32, 64, 128, 256, 512],
                      [17, 250, 3, 999, 41, 41, 600, 8, 77, 1000], [1] * 4 + [1000] + [1] * 5):
            self.check(opens)

    def test_where_it_may_be_alone_counts(self):
        opens = [4, 1, 30, 2, 2, 7, 1]
        for low, high in itertools.combinations(range(8), 2):
            self.check(opens, low, high)

    def test_whoever_goes_by_first_spends_that(self):
        for opens in ([3, 1, 4, 1, 5, 9, 2, 6, 5, 3], [9, 1, 1, 9, 1, 1, 9, 1], [2] * 7, [1, 5, 1, 1000, 1, 5]):
            for t in range(len(opens)):
                made, told = of(opens), last(of(opens), ("spends", t))
                while last(made, ("first",)) != [-33]:
                    i = last(made, ("first",))[0]
                    made = made + [("open", i, 0 if t <= i else 1)]
                    paid = last(made, ("sums",))[4]
                    self.assertEqual([paid + last(made, ("spends", t))[0]], told)
                self.assertEqual(behind(made, ("found",), ("again",)), [[t], told])

    def test_it_is_what_the_cost_is_now(self):
        told = behind(of([7, 9, 1]), ("spends", 0), ("cost", 0, 50), ("spends", 0), ("cost", 1, 1), ("spends", 2))
        self.assertEqual(told, [[7], [7], [50], [9], [51]])

    def test_it_changes_nothing(self):
        asked = state(4) + [("spends", t) for t in range(5)] + [("fewest",)]
        told = behind(of([4, 1, 3, 2]), *asked, *asked)
        self.assertEqual(told[:len(asked)], told[len(asked):])


if __name__ == "__main__":
    unittest.main()
