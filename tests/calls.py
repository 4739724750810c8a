"""What the tests share: each call as its numbers, and the program's answers taken apart call by call."""

from evenscores.groups import answers

GREATEST = 4294967295


def begin(k):
    return [0, k]


def count(g, s, y, n):
    return [1, g, s, y, n]


def cell(g, s):
    return [2, g, s]


def people(g):
    return [3, g]


def value(s, a, b):
    return [4, s, a, b]


def share(g, s):
    return [5, g, s]


def istrue(g):
    return [6, g]


def meanyes(g):
    return [7, g]


def meanno(g):
    return [8, g]


def meanall(g):
    return [9, g]


def off(g):
    return [10, g]


def setto(g):
    return [11, g]


def both():
    return [12]


def merge(a, b):
    return [13, a, b]


def even():
    return [14]


def bases():
    return [15]


def values():
    return [16]


def ask(*calls):
    """The answers to the calls, one list for each call."""
    handed_in = [number for call in calls for number in call]
    if len(calls) > 40 or len(handed_in) > 200:
        raise AssertionError("the document lets no such list be handed in")
    given_back = answers(handed_in)
    taken = []
    at = 0
    while at < len(given_back):
        behind = at + 1 + given_back[at]
        taken.append(given_back[at + 1:behind])
        at = behind
    if at != len(given_back) or len(taken) != len(calls):
        raise AssertionError(f"{given_back} is not an answer to each of {len(calls)} calls")
    return taken


def last(*calls):
    """What the last of the calls answers."""
    return ask(*calls)[-1]


def held(k):
    """Calls that show all that an object with k scores holds: the table, and the numbers."""
    return [cell(g, s) for g in (0, 1) for s in range(k)] + [values()]


def everything(k):
    """Calls that show all that an object with k scores holds, and all that it answers of that unchanged."""
    shown = held(k) + [even(), bases()]
    for g in (0, 1):
        shown += [people(g), istrue(g), meanyes(g), meanno(g), meanall(g), off(g)]
        shown += [share(g, s) for s in range(k)]
    return shown
