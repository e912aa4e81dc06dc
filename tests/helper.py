"""Calls as lists of numbers, and the answers to them taken apart again."""

from fractions import Fraction

from throwntogether.ground import answers

LOWEST = -2147483648
HIGHEST = 2147483647


def begin(n):
    return [0, n]


def spread(k, weights):
    return [1, k, len(weights)] + list(weights)


def told(k):
    return [2, k]


def apart(k, l):
    return [3, k, l]


def plan(k, l):
    return [4, k, l]


def tested(k, l, e, numbers):
    return [5, k, l, e, len(numbers)] + list(numbers)


def ask(*calls):
    """One answer, a list, for each call; all calls go to one new object."""
    line = [number for call in calls for number in call]
    answered = answers(line)
    found = []
    place = 0
    while place < len(answered):
        count = answered[place]
        found.append(answered[place + 1:place + 1 + count])
        if len(found[-1]) != count:
            raise AssertionError(f"an answer is cut off: {answered}")
        place += 1 + count
    if len(found) != len(calls):
        raise AssertionError(f"{len(calls)} calls, {len(found)} answers")
    return found


def last(*calls):
    """The answer to the last one of these calls."""
    return ask(*calls)[-1]


def two_spreads(first, second):
    """The calls that put two spreads into the slots 0 and 1 of a new ground."""
    return [begin(len(first)), spread(0, first), spread(1, second)]


def fractions_of(numbers):
    """Told numbers, two by two, as fractions; they must have nothing in common."""
    found = []
    for upper, lower in zip(numbers[::2], numbers[1::2], strict=True):
        fraction = Fraction(upper, lower)
        if (fraction.numerator, fraction.denominator) != (upper, lower):
            raise AssertionError(f"{upper} {lower} is not how {fraction} is told")
        found.append(fraction)
    return found


def chances(weights):
    return [Fraction(weight, sum(weights)) for weight in weights]


def distance(first, second):
    """How far apart two lists of weights are, by the document's words."""
    more = [one - other for one, other in zip(chances(first), chances(second)) if one > other]
    return sum(more, Fraction(0))


def lists_of(length, total):
    """All lists of that length, of whole numbers from 0 on, with that sum, the greatest first."""
    if length == 1:
        return [[total]]
    return [[head] + rest for head in range(total, -1, -1) for rest in lists_of(length - 1, total - head)]


def whole_plans(first, second):
    """All plans in whole numbers of two lists with the same sum, the greatest, number by number, first."""
    if len(first) == 0:
        return [[]]
    found = []
    for row in lists_of(len(second), first[0]):
        left = [have - take for have, take in zip(second, row)]
        if min(left) >= 0:
            found.extend([row + rest for rest in whole_plans(first[1:], left)])
    return found
