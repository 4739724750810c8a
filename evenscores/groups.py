"""Answers calls about people of two groups: their scores, and what number each score stands for."""

# The numbers of the calls, as the interface has them.
BEGIN = 0
COUNT = 1
CELL = 2
PEOPLE = 3
VALUE = 4
SHARE = 5
ISTRUE = 6
MEANYES = 7
MEANNO = 8
MEANALL = 9
OFF = 10
SETTO = 11
BOTH = 12
MERGE = 13
EVEN = 14
BASES = 15
VALUES = 16

# How many whole numbers stand behind each call's number.
ARGUMENTS = (1, 4, 2, 1, 3, 2, 1, 1, 1, 1, 1, 1, 0, 2, 0, 0, 0)

NO_SUCH = -2
BEFORE_BEGIN = -11
NOT_RIGHT = -22
TOO_MANY = -28
NONE_THERE = -33

GROUPS = 2
MOST_SCORES = 4
MOST_HELD = 99
MOST_LOWER = 100


# Per group and score how many turned out so (yes) and not so (no); per score its number, (upper, lower).
class Table:
    def __init__(self):
        # A begin that answers 0 leaves 1 score or more, so 0 tells that there was none.
        self.scores = 0
        self.yes = [[], []]
        self.no = [[], []]
        self.numbers = []


# The greatest number that goes into both; one of them is above 0.
def common(a, b):
    while b > 0:
        rest = a % b
        a = b
        b = rest
    return a


def lowest(upper, lower):
    divisor = common(upper, lower)
    return (upper // divisor, lower // divisor)


# The share of these who turned out so, or None, because there is none without people.
def share_of(so, not_so):
    if so + not_so == 0:
        return None
    return lowest(so, so + not_so)


# parts: fractions, their lower numbers 1 or more, whose sum is spread over so many people; None if these are nobody.
def mean_of(parts, many):
    if many == 0:
        return None
    upper = 0
    lower = 1
    for part in parts:
        upper = upper * part[1] + part[0] * lower
        lower = lower * part[1]
    return lowest(upper, lower * many)


def told(number):
    if number is None:
        return [NONE_THERE]
    return [0, number[0], number[1]]


# Python's True and False are not whole numbers to the interface.
def one_or_nought(holds):
    return 1 if holds else 0


def no_group(g):
    return g >= GROUPS


def no_score(table, s):
    return s >= table.scores


def begin(table, k):
    if k < 1 or k > MOST_SCORES:
        return [NOT_RIGHT]
    table.scores = k
    table.yes = [[0] * k, [0] * k]
    table.no = [[0] * k, [0] * k]
    table.numbers = [(0, 1)] * k
    return [0]


def count(table, g, s, y, n):
    if no_group(g) or no_score(table, s):
        return [NO_SUCH]
    if y > MOST_HELD or n > MOST_HELD:
        return [NOT_RIGHT]
    table.yes[g][s] = y
    table.no[g][s] = n
    return [y + n]


def cell(table, g, s):
    if no_group(g) or no_score(table, s):
        return [NO_SUCH]
    return [table.yes[g][s], table.no[g][s]]


def value(table, s, a, b):
    if no_score(table, s):
        return [NO_SUCH]
    if b < 1 or b > MOST_LOWER or a > b:
        return [NOT_RIGHT]
    table.numbers[s] = lowest(a, b)
    return [0]


def share(table, g, s):
    if no_group(g) or no_score(table, s):
        return [NO_SUCH]
    return told(share_of(table.yes[g][s], table.no[g][s]))


def too_many_together(held, a, b):
    return held[a] + held[b] > MOST_HELD


def move(held, a, b):
    held[a] = held[a] + held[b]
    held[b] = 0


def merge(table, a, b):
    if no_score(table, a) or no_score(table, b):
        return [NO_SUCH]
    if a == b:
        return [NOT_RIGHT]
    # All are looked at before any is moved, because a refusal changes nothing.
    for g in range(GROUPS):
        if too_many_together(table.yes[g], a, b) or too_many_together(table.no[g], a, b):
            return [TOO_MANY]
    for g in range(GROUPS):
        move(table.yes[g], a, b)
        move(table.no[g], a, b)
    return [0]


def people(table, g):
    so = sum(table.yes[g])
    return [so + sum(table.no[g]), so]


def true_at(table, g, s):
    found = share_of(table.yes[g][s], table.no[g][s])
    # Both are in lowest terms, so they are the same number only if they look the same.
    return found is None or found == table.numbers[s]


def true_in(table, g):
    for s in range(table.scores):
        if not true_at(table, g, s):
            return 0
    return 1


# holders: for each score how many people, of those whose mean is asked for, have it.
def mean(table, holders):
    parts = []
    for s in range(table.scores):
        number = table.numbers[s]
        parts.append((holders[s] * number[0], number[1]))
    return mean_of(parts, sum(holders))


def everybody(table, g):
    return [table.yes[g][s] + table.no[g][s] for s in range(table.scores)]


def off(table, g):
    parts = []
    for s in range(table.scores):
        upper = table.numbers[s][0]
        lower = table.numbers[s][1]
        from_one = (lower - upper) * (lower - upper)
        from_nought = upper * upper
        parts.append((table.yes[g][s] * from_one + table.no[g][s] * from_nought, lower * lower))
    return told(mean_of(parts, sum(everybody(table, g))))


def set_number(table, s, so, not_so):
    found = share_of(so, not_so)
    if found is not None:
        table.numbers[s] = found


def setto(table, g):
    for s in range(table.scores):
        set_number(table, s, table.yes[g][s], table.no[g][s])
    return [true_in(table, 1 - g)]


def both(table):
    for s in range(table.scores):
        set_number(table, s, table.yes[0][s] + table.yes[1][s], table.no[0][s] + table.no[1][s])
    return [true_in(table, 0), true_in(table, 1)]


# held: of each group, for each score, how many of those who are compared have it.
def same_mean(table, held):
    first = mean(table, held[0])
    second = mean(table, held[1])
    # Two groups without such people have no means, and so not the same one.
    return one_or_nought(first is not None and first == second)


def even(table):
    return [same_mean(table, table.yes), same_mean(table, table.no)]


def base(table, g):
    return share_of(sum(table.yes[g]), sum(table.no[g]))


def bases(table):
    first = base(table, 0)
    second = base(table, 1)
    if first is None or second is None:
        return [NONE_THERE]
    return [one_or_nought(first == second), first[0], first[1], second[0], second[1]]


def every_value(table):
    listed = [table.scores]
    for number in table.numbers:
        listed.append(number[0])
        listed.append(number[1])
    return listed


def answer_whole(table, call):
    if call == BOTH:
        return both(table)
    if call == EVEN:
        return even(table)
    if call == BASES:
        return bases(table)
    return every_value(table)


def answer_group(table, call, g):
    # Of every call that is given a group alone this is the refusal that is named first.
    if no_group(g):
        return [NO_SUCH]
    if call == PEOPLE:
        return people(table, g)
    if call == ISTRUE:
        return [true_in(table, g)]
    if call == MEANYES:
        return told(mean(table, table.yes[g]))
    if call == MEANNO:
        return told(mean(table, table.no[g]))
    if call == MEANALL:
        return told(mean(table, everybody(table, g)))
    if call == OFF:
        return off(table, g)
    return setto(table, g)


def answer(table, call, given):
    if call == BEGIN:
        return begin(table, given[0])
    if table.scores == 0:
        return [BEFORE_BEGIN]
    if len(given) == 0:
        return answer_whole(table, call)
    if len(given) == 1:
        return answer_group(table, call, given[0])
    if call == COUNT:
        return count(table, given[0], given[1], given[2], given[3])
    if call == CELL:
        return cell(table, given[0], given[1])
    if call == VALUE:
        return value(table, given[0], given[1], given[2])
    if call == SHARE:
        return share(table, given[0], given[1])
    return merge(table, given[0], given[1])


def answers(calls):
    table = Table()
    given_back = []
    at = 0
    while at < len(calls):
        behind = at + 1 + ARGUMENTS[calls[at]]
        numbers = answer(table, calls[at], calls[at + 1:behind])
        given_back.append(len(numbers))
        given_back.extend(numbers)
        at = behind
    return given_back
