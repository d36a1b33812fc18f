"""The calls on one cable with a fault in it, and what they answer.

Each call gives back a list: the numbers that are answered, or a refusal's number alone.
"""

MOST_SECTIONS = 10
MOST_METRES = 1000
MOST_EACH = 100
MOST_OPENS = 1000

NO_SUCH = -2
NOT_BEGUN = -11
NOT_IN_ALL = -16
OUT_OF_BOUNDS = -22
FULL = -28
NO_ANSWER = -33

BEGIN = 0

# How many numbers stand behind each call's own, from begin to sums.
SIZES = (0, 3, 2, 2, 2, 2, 0, 0, 0, 1, 0, 1, 2, 0, 0, 0, 1, 1, 1, 0)


class Section:
    def __init__(self, metres, each, opens):
        self.metres = metres
        self.each = each
        self.opens = opens


# The fault may be from section low up to the one before high: they lie side by side, so the two tell them all.
class Cable:
    def __init__(self):
        self.begun = False
        self.sections = []
        self.low = 0
        self.high = 0
        self.openings = 0
        self.spent = 0


def resistance(part):
    return part.metres * part.each


def all_resistance(parts):
    return sum([resistance(part) for part in parts])


def ahead(cable, i):
    return all_resistance(cable.sections[:i])


def behind(cable, i):
    return all_resistance(cable.sections[i + 1:])


def is_cost(opens):
    return 1 <= opens and opens <= MOST_OPENS


def start_over(cable):
    cable.low = 0
    cable.high = len(cable.sections)
    cable.openings = 0
    cable.spent = 0


def begin(cable):
    cable.begun = True
    cable.sections = []
    start_over(cable)
    return [0]


def section(cable, metres, each, opens):
    number = len(cable.sections)
    if metres < 1 or metres > MOST_METRES or each > MOST_EACH or not is_cost(opens):
        return [OUT_OF_BOUNDS]
    # That tells of openings too: each leaves at least one section out.
    if cable.high - cable.low < number:
        return [NOT_IN_ALL]
    if number == MOST_SECTIONS:
        return [FULL]
    cable.sections.append(Section(metres, each, opens))
    # A measurement speaks of the cable as it was then, so the fault may be in the new section too.
    cable.high = number + 1
    return [number]


def cost(cable, i, opens):
    if i >= len(cable.sections):
        return [NO_SUCH]
    if not is_cost(opens):
        return [OUT_OF_BOUNDS]
    was = cable.sections[i].opens
    cable.sections[i].opens = opens
    return [was]


# Both ends of a section belong to it: a fault just between two may be in either.
def fits(nearer, own, lo, hi):
    return nearer <= hi and nearer + own >= lo


def may_be(cable):
    return list(range(cable.low, cable.high))


def left_by_measure(cable, lo, hi):
    return [i for i in may_be(cable) if fits(ahead(cable, i), resistance(cable.sections[i]), lo, hi)]


def left_by_other(cable, lo, hi):
    return [i for i in may_be(cable) if fits(behind(cable, i), resistance(cable.sections[i]), lo, hi)]


def narrow(cable, left):
    if len(left) == 0:
        return [NO_ANSWER]
    # Its first and last are enough: what's ahead only grows and what's behind only shrinks, so left has no gap.
    cable.low = left[0]
    cable.high = left[-1] + 1
    return [len(left)]


def measure(cable, lo, hi):
    if hi < lo:
        return [OUT_OF_BOUNDS]
    return narrow(cable, left_by_measure(cable, lo, hi))


def other(cable, lo, hi):
    if hi < lo:
        return [OUT_OF_BOUNDS]
    return narrow(cable, left_by_other(cable, lo, hi))


def could(cable, lo, hi):
    if hi < lo:
        return [OUT_OF_BOUNDS]
    return [len(left_by_measure(cable, lo, hi))]


def where(cable):
    return [cable.high - cable.low] + may_be(cable)


def can_be_opened(cable, i):
    return cable.low <= i and i + 1 < cable.high


# The call that the document names open, which is a name of Python's own.
def open_at(cable, i, side):
    if not can_be_opened(cable, i):
        return [NO_SUCH]
    if side > 1:
        return [OUT_OF_BOUNDS]
    if side == 0:
        cable.high = i + 1
    else:
        cable.low = i + 1
    cable.openings += 1
    # Kept as a sum, since what an opening costs may be changed later on.
    cable.spent += cable.sections[i].opens
    return [cable.high - cable.low]


def found(cable):
    if cable.high - cable.low != 1:
        return [NO_ANSWER]
    return [cable.low]


def again(cable):
    was = cable.spent
    start_over(cable)
    return [was]


# One number for each section that may be opened first, from low on; best tells of all shorter spans already.
def costs_by_first(best, prices, low, high):
    return [prices[i] + max(best[(low, i + 1)], best[(i + 1, high)]) for i in range(low, high - 1)]


# A span is its first section and the one behind its last. Shorter ones come first, as a way goes on in two of them.
def best_costs(prices):
    best = {}
    for size in range(len(prices) + 1):
        for low in range(len(prices) - size + 1):
            best[(low, low + size)] = min(costs_by_first(best, prices, low, low + size), default=0)
    return best


# index finds the lesser section where several cost alike.
def opens_first(best, prices, low, high):
    costs = costs_by_first(best, prices, low, high)
    return low + costs.index(min(costs))


def prices_of(cable):
    return [part.opens for part in cable.sections]


def least(cable):
    return [best_costs(prices_of(cable))[(cable.low, cable.high)]]


def first(cable):
    if cable.high - cable.low < 2:
        return [NO_ANSWER]
    prices = prices_of(cable)
    return [opens_first(best_costs(prices), prices, cable.low, cable.high)]


def would(cable, i):
    if not can_be_opened(cable, i):
        return [NO_SUCH]
    prices = prices_of(cable)
    costs = costs_by_first(best_costs(prices), prices, cable.low, cable.high)
    return [costs[i - cable.low], i + 1 - cable.low, cable.high - i - 1]


def fewest(cable):
    size = cable.high - cable.low
    return [best_costs([1] * size)[(0, size)]]


# On either side of an opening the best way goes on as that side's own best way.
def spends(cable, t):
    low = cable.low
    high = cable.high
    if t < low or t >= high:
        return [NO_SUCH]
    prices = prices_of(cable)
    best = best_costs(prices)
    total = 0
    while high - low > 1:
        i = opens_first(best, prices, low, high)
        total += prices[i]
        if t <= i:
            high = i + 1
        else:
            low = i + 1
    return [total]


def sum_of_metres(parts):
    return sum([part.metres for part in parts])


def all_metres(cable):
    return [sum_of_metres(cable.sections), all_resistance(cable.sections)]


def resist(cable, i):
    if i >= len(cable.sections):
        return [NO_SUCH]
    return [resistance(cable.sections[i]), ahead(cable, i), behind(cable, i)]


# As many metres of one section as have that much resistance together, a begun metre taken whole.
def metres_for(part, much):
    if part.each == 0:
        return 0
    return (much + part.each - 1) // part.each


def point(cable, r):
    parts = cable.sections
    if len(parts) == 0 or all_resistance(parts) < r:
        return [NO_ANSWER]
    i = 0
    while all_resistance(parts[:i + 1]) < r:
        i += 1
    return [sum_of_metres(parts[:i]) + metres_for(parts[i], r - ahead(cable, i))]


def look(cable, i):
    if i >= len(cable.sections):
        return [NO_SUCH]
    part = cable.sections[i]
    return [part.metres, part.each, part.opens]


def sums(cable):
    return [len(cable.sections), cable.low, cable.high, cable.openings, cable.spent]


WITH_NONE = {
    0: begin, 6: where, 7: least, 8: first, 10: fewest, 13: found, 14: again, 15: all_metres, 19: sums,
}
WITH_ONE = {9: would, 11: spends, 16: resist, 17: point, 18: look}
WITH_TWO = {2: cost, 3: measure, 4: other, 5: could, 12: open_at}
WITH_THREE = {1: section}


def answer(cable, number, given):
    if number != BEGIN and not cable.begun:
        return [NOT_BEGUN]
    if len(given) == 0:
        return WITH_NONE[number](cable)
    if len(given) == 1:
        return WITH_ONE[number](cable, given[0])
    if len(given) == 2:
        return WITH_TWO[number](cable, given[0], given[1])
    return WITH_THREE[number](cable, given[0], given[1], given[2])


def answers(calls):
    cable = Cable()
    told = []
    at = 0
    while at < len(calls):
        after = at + 1 + SIZES[calls[at]]
        numbers = answer(cable, calls[at], calls[at + 1:after])
        told.append(len(numbers))
        told.extend(numbers)
        at = after
    return told
