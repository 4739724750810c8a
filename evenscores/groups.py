"""Answers calls about people of two groups: their scores, and what number each score stands for."""

BEGIN = 0
COUNT = 1
CELL = 2
PEOPLE = 3
VALUE = 4
SHARE = 5
ISTRUE = 6
MEANYES = 7
MEANNO = 8

# How many whole numbers stand behind each call's number. The calls that are not built yet are in it too,
# because they are refused like all others before a begin.
ARGUMENTS = (1, 4, 2, 1, 3, 2, 1, 1, 1, 1, 1, 1, 0, 2, 0, 0, 0)

NO_SUCH = -2
BEFORE_BEGIN = -11
NOT_RIGHT = -22
NONE_THERE = -33

GROUPS = 2
MOST_SCORES = 4
MOST_HELD = 99
MOST_LOWER = 100


# Per group and score how many turned out so (yes) and not so (no); per score its number, (upper, lower).
class Table:
    def __init__(self):
        # A begin that answers 0 leaves 1 score or more, so 0 tells that there was none.
        self.scores = 0
        self.yes = [[], []]
        self.no = [[], []]
        self.numbers = []


# The greatest number that goes into both; one of them is above 0.
def common(a, b):
    while b > 0:
        rest = a % b
        a = b
        b = rest
    return a


def lowest(upper, lower):
    divisor = common(upper, lower)
    return (upper // divisor, lower // divisor)


def told(upper, lower):
    number = lowest(upper, lower)
    return [0, number[0], number[1]]


def no_group(g):
    return g >= GROUPS


def no_score(table, s):
    return s >= table.scores


def begin(table, k):
    if k < 1 or k > MOST_SCORES:
        return [NOT_RIGHT]
    table.scores = k
    table.yes = [[0] * k, [0] * k]
    table.no = [[0] * k, [0] * k]
    table.numbers = [(0, 1)] * k
    return [0]


def count(table, g, s, y, n):
    if no_group(g) or no_score(table, s):
        return [NO_SUCH]
    if y > MOST_HELD or n > MOST_HELD:
        return [NOT_RIGHT]
    table.yes[g][s] = y
    table.no[g][s] = n
    return [y + n]


def cell(table, g, s):
    if no_group(g) or no_score(table, s):
        return [NO_SUCH]
    return [table.yes[g][s], table.no[g][s]]


def people(table, g):
    if no_group(g):
        return [NO_SUCH]
    so = sum(table.yes[g])
    return [so + sum(table.no[g]), so]


def value(table, s, a, b):
    if no_score(table, s):
        return [NO_SUCH]
    if b < 1 or b > MOST_LOWER or a > b:
        return [NOT_RIGHT]
    table.numbers[s] = lowest(a, b)
    return [0]


def share(table, g, s):
    if no_group(g) or no_score(table, s):
        return [NO_SUCH]
    so = table.yes[g][s]
    everybody = so + table.no[g][s]
    if everybody == 0:
        return [NONE_THERE]
    return told(so, everybody)


def true_at(table, g, s):
    so = table.yes[g][s]
    everybody = so + table.no[g][s]
    number = table.numbers[s]
    # Multiplied out, because a score without people has no share, but is no hindrance: both sides are 0 then.
    return so * number[1] == number[0] * everybody


def istrue(table, g):
    if no_group(g):
        return [NO_SUCH]
    for s in range(table.scores):
        if not true_at(table, g, s):
            return [0]
    return [1]


# holders: for each score how many people, of those whose mean is asked for, have it.
def mean(table, holders):
    everybody = sum(holders)
    if everybody == 0:
        return [NONE_THERE]
    upper = 0
    lower = 1
    for s in range(table.scores):
        number = table.numbers[s]
        upper = upper * number[1] + holders[s] * number[0] * lower
        lower = lower * number[1]
    return told(upper, lower * everybody)


def meanyes(table, g):
    if no_group(g):
        return [NO_SUCH]
    return mean(table, table.yes[g])


def meanno(table, g):
    if no_group(g):
        return [NO_SUCH]
    return mean(table, table.no[g])


def answer(table, call, given):
    if call == BEGIN:
        return begin(table, given[0])
    if table.scores == 0:
        return [BEFORE_BEGIN]
    if call == COUNT:
        return count(table, given[0], given[1], given[2], given[3])
    if call == CELL:
        return cell(table, given[0], given[1])
    if call == PEOPLE:
        return people(table, given[0])
    if call == VALUE:
        return value(table, given[0], given[1], given[2])
    if call == SHARE:
        return share(table, given[0], given[1])
    if call == ISTRUE:
        return istrue(table, given[0])
    if call == MEANYES:
        return meanyes(table, given[0])
    if call == MEANNO:
        return meanno(table, given[0])
    raise NotImplementedError(f"call {call}")


def answers(calls):
    table = Table()
    given_back = []
    at = 0
    while at < len(calls):
        behind = at + 1 + ARGUMENTS[calls[at]]
        numbers = answer(table, calls[at], calls[at + 1:behind])
        given_back.append(len(numbers))
        given_back.extend(numbers)
        at = behind
    return given_back
