"""Calls written by name, and the answers taken apart again."""

from faultfind.faults import answers

NUMBERS = {
    "begin": 0, "section": 1, "cost": 2, "measure": 3, "other": 4,
    "could": 5, "where": 6, "least": 7, "first": 8, "would": 9,
    "fewest": 10, "spends": 11, "open": 12, "found": 13, "again": 14,
    "metres": 15, "resist": 16, "point": 17, "look": 18, "sums": 19,
}
TOP = 4294967295


def flat(calls):
    """The one list that answers takes, from calls such as ("cost", 0, 5)."""
    return [n for call in calls for n in (NUMBERS[call[0]],) + tuple(call[1:])]


def apart(told):
    """One list for each call, from the one list that answers gives back."""
    each, at = [], 0
    while at < len(told):
        size = told[at]
        each.append(told[at + 1:at + 1 + size])
        assert size >= 1 and len(each[-1]) == size, told
        at += 1 + size
    return each


def run(*calls):
    return apart(answers(flat(calls)))


def cable(*sections):
    """The calls that make a cable of these (metres, each, opens)."""
    return [("begin",)] + [("section",) + tuple(s) for s in sections]


def behind(made, *calls):
    """What these calls answer, behind those that made the cable (which must not be refused)."""
    told = run(*made, *calls)
    assert all(answer[0] >= 0 for answer in told[:len(made)]), told
    return told[len(made):]


def last(made, *calls):
    return behind(made, *calls)[-1]


def state(sections):
    """The calls that tell all there is to know of a cable of so many sections."""
    return [("sums",), ("where",), ("metres",)] + [("look", i) for i in range(sections)]
