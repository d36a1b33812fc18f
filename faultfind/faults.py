"""The calls on one cable with a fault in it, and what they answer.

Each call gives back a list: the numbers that are answered, or a refusal's number alone.
"""

MOST_SECTIONS = 10
MOST_METRES = 1000
MOST_EACH = 100
MOST_OPENS = 1000

NO_SUCH = -2
NOT_BEGUN = -11
NOT_IN_ALL = -16
OUT_OF_BOUNDS = -22
FULL = -28
NO_ANSWER = -33

BEGIN = 0

# How many numbers stand behind each call's own, from begin to sums.
SIZES = (0, 3, 2, 2, 2, 2, 0, 0, 0, 1, 0, 1, 2, 0, 0, 0, 1, 1, 1, 0)


class Section:
    def __init__(self, metres, each, opens):
        self.metres = metres
        self.each = each
        self.opens = opens


# The fault may be from section low up to the one before high: they lie side by side, so the two tell them all.
class Cable:
    def __init__(self):
        self.begun = False
        self.sections = []
        self.low = 0
        self.high = 0


def resistance(part):
    return part.metres * part.each


def all_resistance(parts):
    return sum([resistance(part) for part in parts])


def ahead(cable, i):
    return all_resistance(cable.sections[:i])


def behind(cable, i):
    return all_resistance(cable.sections[i + 1:])


def is_cost(opens):
    return 1 <= opens and opens <= MOST_OPENS


def begin(cable):
    cable.begun = True
    cable.sections = []
    cable.low = 0
    cable.high = 0
    return [0]


def section(cable, metres, each, opens):
    number = len(cable.sections)
    if metres < 1 or metres > MOST_METRES or each > MOST_EACH or not is_cost(opens):
        return [OUT_OF_BOUNDS]
    if cable.high - cable.low < number:
        return [NOT_IN_ALL]
    if number == MOST_SECTIONS:
        return [FULL]
    cable.sections.append(Section(metres, each, opens))
    # A measurement speaks of the cable as it was then, so the fault may be in the new section too.
    cable.high = number + 1
    return [number]


def cost(cable, i, opens):
    if i >= len(cable.sections):
        return [NO_SUCH]
    if not is_cost(opens):
        return [OUT_OF_BOUNDS]
    was = cable.sections[i].opens
    cable.sections[i].opens = opens
    return [was]


# Both ends of a section belong to it: a fault just between two may be in either.
def fits(nearer, own, lo, hi):
    return nearer <= hi and nearer + own >= lo


def may_be(cable):
    return list(range(cable.low, cable.high))


def left_by_measure(cable, lo, hi):
    return [i for i in may_be(cable) if fits(ahead(cable, i), resistance(cable.sections[i]), lo, hi)]


def left_by_other(cable, lo, hi):
    return [i for i in may_be(cable) if fits(behind(cable, i), resistance(cable.sections[i]), lo, hi)]


def narrow(cable, left):
    if len(left) == 0:
        return [NO_ANSWER]
    # Its first and last are enough: what's ahead only grows and what's behind only shrinks, so left has no gap.
    cable.low = left[0]
    cable.high = left[-1] + 1
    return [len(left)]


def measure(cable, lo, hi):
    if hi < lo:
        return [OUT_OF_BOUNDS]
    return narrow(cable, left_by_measure(cable, lo, hi))


def other(cable, lo, hi):
    if hi < lo:
        return [OUT_OF_BOUNDS]
    return narrow(cable, left_by_other(cable, lo, hi))


def could(cable, lo, hi):
    if hi < lo:
        return [OUT_OF_BOUNDS]
    return [len(left_by_measure(cable, lo, hi))]


def where(cable):
    return [cable.high - cable.low] + may_be(cable)


# One number for each section that may be opened first, from low on; best tells of all shorter spans already.
def costs_by_first(best, prices, low, high):
    return [prices[i] + max(best[(low, i + 1)], best[(i + 1, high)]) for i in range(low, high - 1)]


# A span is its first section and the one behind its last. Shorter ones come first, as a way goes on in two of them.
def best_costs(prices):
    best = {}
    for size in range(len(prices) + 1):
        for low in range(len(prices) - size + 1):
            best[(low, low + size)] = min(costs_by_first(best, prices, low, low + size), default=0)
    return best


def costs_now(cable):
    prices = [part.opens for part in cable.sections]
    return costs_by_first(best_costs(prices), prices, cable.low, cable.high)


def least(cable):
    return [min(costs_now(cable), default=0)]


def first(cable):
    costs = costs_now(cable)
    if len(costs) == 0:
        return [NO_ANSWER]
    # index finds the lesser section where several cost alike.
    return [cable.low + costs.index(min(costs))]


def would(cable, i):
    if i < cable.low or i + 1 >= cable.high:
        return [NO_SUCH]
    return [costs_now(cable)[i - cable.low], i + 1 - cable.low, cable.high - i - 1]


WITH_NONE = {0: begin, 6: where, 7: least, 8: first}
WITH_ONE = {9: would}
WITH_TWO = {2: cost, 3: measure, 4: other, 5: could}
WITH_THREE = {1: section}


def answer(cable, number, given):
    if number != BEGIN and not cable.begun:
        return [NOT_BEGUN]
    if len(given) == 0:
        return WITH_NONE[number](cable)
    if len(given) == 1:
        return WITH_ONE[number](cable, given[0])
    if len(given) == 2:
        return WITH_TWO[number](cable, given[0], given[1])
    return WITH_THREE[number](cable, given[0], given[1], given[2])


def answers(calls):
    cable = Cable()
    told = []
    at = 0
    while at < len(calls):
        after = at + 1 + SIZES[calls[at]]
        numbers = answer(cable, calls[at], calls[at + 1:after])
        told.append(len(numbers))
        told.extend(numbers)
        at = after
    return told
