"""Promise 3: least, first, would; held against a plain search of all ways."""

import functools
import itertools
import unittest

from tests.helper import TOP, behind, cable, last


@functools.lru_cache(maxsize=None)
def ways(low, high):
    """Each way to find it from low to high: None, or where to open first and how on either side."""
    if high - low < 2:
        return [None]
    return [(i, up, on) for i in range(low, high - 1) for up in ways(low, i + 1) for on in ways(i + 1, high)]


def spent(way, opens, fault):
    total = 0
    while way is not None:
        total += opens[way[0]]
        way = way[1] if fault <= way[0] else way[2]
    return total


def worst(way, opens, low, high):
    return max([spent(way, opens, fault) for fault in range(low, high)], default=0)


def searched(opens, low=0, high=None):
    """What is the least, and the least for each section that may be opened first."""
    high = len(opens) if high is None else high
    by_first = {}
    least = 0 if high - low < 2 else None
    for way in ways(low, high):
        if way is not None:
            cost = worst(way, opens, low, high)
            by_first[way[0]] = min(cost, by_first.get(way[0], cost))
            least = cost if least is None else min(least, cost)
    return least, by_first


def of(opens):
    """Each section has 10."""
    return cable(*[(5, 2, o) for o in opens])


class Ways(unittest.TestCase):
    def check(self, opens, low=0, high=None):
        high = len(opens) if high is None else high
        least, by_first = searched(opens, low, high)
        goal = min([i for i in by_first if by_first[i] == least], default=-33)
        made = of(opens)
        if (low, high) != (0, len(opens)):
            made.append(("measure", 10 * low + 1, 10 * high - 1))
        told = behind(made, ("least",), ("first",), *[("would", i) for i in range(len(opens) + 1)])
        would = [[by_first[i], i + 1 - low, high - i - 1] if i in by_first else [-2] for i in range(len(opens) + 1)]
        self.assertEqual(told, [[least], [goal]] + would, (opens, low, high))

    def test_no_section(self):
        told = behind([("begin",)], ("least",), ("first",), ("would", 0), ("would", TOP))
        self.assertEqual(told, [[0], [-33], [-2], [-2]])

    def test_one(self):
        self.assertEqual(behind(of([7]), ("least",), ("first",), ("would", 0), ("would", 1)), [[0], [-33], [-2], [-2]])

    def test_two(self):
        told = behind(of([7, 9]), ("least",), ("first",), ("would", 0), ("would", 1), ("would", 2))
        self.assertEqual(told, [[7], [0], [7, 1, 1], [-2], [-2]])

    def test_three(self):
        told = behind(of([7, 9, 1]), ("least",), ("first",), ("would", 0), ("would", 1), ("would", 2))
        self.assertEqual(told, [[16], [0], [16, 1, 2], [16, 2, 1], [-2]])

    def test_ten_alike(self):
        told = behind(of([1] * 10), ("least",), ("first",), ("would", 0), ("would", 1), ("would", 4), ("would", 8))
        self.assertEqual(told, [[4], [1], [5, 1, 9], [4, 2, 8], [4, 5, 5], [5, 9, 1]])
        self.check([1000] * 10)

    def test_alike_as_many_as_one_must_double(self):
        for n in range(1, 11):
            doubled = (n - 1).bit_length()
            self.assertEqual(last(of([3] * n), ("least",)), [3 * doubled])

    def test_ten_unlike(self):
        self.check([3, 1, 4, 1, 5, 9, 2, 6, 5, 3])
        self.check([1, 2, 3, 4, 5, 6, 7, 8, 9, 10])
        self.check([10, 9, 8, 7, 6, 5, 4, 3, 2, 1])
        self.check([1, 2, 4, 8, 16, 32, 64, 128, 256, 512])
        self.check([512, 256, 128, 64, 32, 16, 8, 4, 2, 1])
        self.check([1000, 1, 1000, 1, 1000, 1, 1000, 1, 1000, 1])
        self.check([17, 250, 3, 999, 41, 41, 600, 8, 77, 1000])

    def test_one_that_is_very_dear(self):
        told = behind(of([1, 1000, 1, 1]), ("least",), ("first",), ("would", 0), ("would", 1), ("would", 2))
        self.assertEqual(told, [[1001], [1], [1002, 1, 3], [1001, 2, 2], [1002, 3, 1]])
        for dear in range(10):
            self.check([1] * dear + [1000] + [1] * (9 - dear))

    def test_the_last_ones_cost_does_not_count(self):
        for opens in ([5, 6], [5, 6, 7], [5, 6, 7, 8, 9]):
            dear = opens[:-1] + [1000]
            self.assertEqual(last(of(opens), ("least",)), last(of(dear), ("least",)))

    def test_of_like_ways_the_lesser_section(self):
        self.assertEqual(last(of([5, 5, 5]), ("first",)), [0])
        self.assertEqual(last(of([5, 5, 5, 5]), ("first",)), [1])
        self.assertEqual(last(of([5, 5, 5, 5, 5]), ("first",)), [0])
        self.assertEqual(last(of([9, 4, 9]), ("first",)), [0])

    def test_each_small_cable(self):
        for n in range(1, 7):
            for opens in itertools.product((1, 2, 5), repeat=n - 1):
                self.check(list(opens) + [3])

    def test_where_it_may_be_alone_counts(self):
        opens = [4, 1, 30, 2, 2, 7, 1]
        for low, high in itertools.combinations(range(8), 2):
            self.check(opens, low, high)

    def test_known_more_is_never_dearer(self):
        for opens in ([3, 1, 4, 1, 5, 9, 2, 6], [9, 1, 1, 9, 1, 1, 9, 1]):
            told = {}
            for low, high in itertools.combinations(range(9), 2):
                told[low, high] = last(of(opens), ("measure", 10 * low + 1, 10 * high - 1), ("least",))[0]
            for (a, b), (c, d) in itertools.product(told, repeat=2):
                if a <= c and d <= b:
                    self.assertLessEqual(told[c, d], told[a, b])

    def test_they_change_nothing(self):
        asked = [("least",), ("first",), ("would", 1), ("would", 9), ("where",)]
        told = behind(of([4, 1, 3, 2]), *asked, *asked)
        self.assertEqual(told[:5], told[5:])


class First(unittest.TestCase):
    def test_fewer_than_two_left(self):
        made = of([4, 1, 3, 2])
        self.assertEqual(behind(made, ("measure", 15, 15), ("first",), ("least",)), [[1], [-33], [0]])
        self.assertEqual(behind(made, ("measure", 20, 20), ("first",), ("least",)), [[2], [1], [1]])

    def test_as_they_are_numbered_in_the_cable(self):
        self.assertEqual(behind(of([1, 1, 1, 9, 2, 1]), ("measure", 31, 60), ("first",), ("least",)), [[3], [3], [11]])


class Would(unittest.TestCase):
    def test_no_such_section(self):
        self.assertEqual(behind(of([4, 1, 3]), ("would", 3), ("would", 10), ("would", TOP)), [[-2]] * 3)

    def test_it_may_not_be_there_or_in_none_behind(self):
        made = of([4, 1, 3, 2, 6]) + [("measure", 15, 35)]
        told = behind(made, ("where",), *[("would", i) for i in range(6)])
        self.assertEqual(told, [[3, 1, 2, 3], [-2], [4, 1, 2], [4, 2, 1], [-2], [-2], [-2]])

    def test_one_left(self):
        made = of([4, 1, 3]) + [("measure", 15, 15)]
        self.assertEqual(behind(made, ("would", 0), ("would", 1), ("would", 2)), [[-2]] * 3)


if __name__ == "__main__":
    unittest.main()
