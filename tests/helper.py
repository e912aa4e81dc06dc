"""Calls as lists of numbers, and the answers to them taken apart again."""

from fractions import Fraction

from throwntogether.ground import answers

LOWEST = -2147483648
HIGHEST = 2147483647
NO_SLOTS = (-1, 4, LOWEST, HIGHEST)


def begin(n):
    return [0, n]


def spread(k, weights):
    return [1, k, len(weights)] + list(weights)


def told(k):
    return [2, k]


def apart(k, l):
    return [3, k, l]


def plan(k, l):
    return [4, k, l]


def tested(k, l, e, numbers):
    return [5, k, l, e, len(numbers)] + list(numbers)


def behind(k, l, m):
    return [6, k, l, m]


def image(k, m, points):
    return [7, k, m, len(points)] + list(points)


def mix(k, l, m, a, b):
    return [8, k, l, m, a, b]


def same(k, l):
    return [9, k, l]


def in_set(k, s):
    return [10, k, s]


def give(k, m):
    return [11, k, m]


def everything():
    """The calls that tell the spreads of all slots."""
    return [told(0), told(1), told(2), told(3)]


def ask(*calls):
    """One answer, a list, for each call; all calls go to one new object."""
    line = [number for call in calls for number in call]
    answered = answers(line)
    found = []
    place = 0
    while place < len(answered):
        count = answered[place]
        found.append(answered[place + 1:place + 1 + count])
        if len(found[-1]) != count:
            raise AssertionError(f"an answer is cut off: {answered}")
        place += 1 + count
    if len(found) != len(calls):
        raise AssertionError(f"{len(calls)} calls, {len(found)} answers")
    return found


def last(*calls):
    """The answer to the last one of these calls."""
    return ask(*calls)[-1]


def two_spreads(first, second):
    """The calls that put two spreads into the slots 0 and 1 of a new ground."""
    return [begin(len(first)), spread(0, first), spread(1, second)]


def fractions_of(numbers):
    """Told numbers, two by two, as fractions; they must have nothing in common."""
    found = []
    for upper, lower in zip(numbers[::2], numbers[1::2], strict=True):
        fraction = Fraction(upper, lower)
        if (fraction.numerator, fraction.denominator) != (upper, lower):
            raise AssertionError(f"{upper} {lower} is not how {fraction} is told")
        found.append(fraction)
    return found


def chances(weights):
    return [Fraction(weight, sum(weights)) for weight in weights]


def distance(first, second):
    """How far apart two lists of weights are, by the document's words."""
    more = [one - other for one, other in zip(chances(first), chances(second)) if one > other]
    return sum(more, Fraction(0))


def lists_of(length, total):
    """All lists of that length, of whole numbers from 0 on, with that sum, the greatest first."""
    if length == 1:
        return [[total]]
    return [[head] + rest for head in range(total, -1, -1) for rest in lists_of(length - 1, total - head)]


def whole_plans(first, second):
    """All plans in whole numbers of two lists with the same sum, the greatest, number by number, first."""
    if len(first) == 0:
        return [[]]
    found = []
    for row in lists_of(len(second), first[0]):
        left = [have - take for have, take in zip(second, row)]
        if min(left) >= 0:
            found.extend([row + rest for rest in whole_plans(first[1:], left)])
    return found


def told_numbers(fractions):
    """How fractions are told, one behind another."""
    return [number for fraction in fractions for number in (fraction.numerator, fraction.denominator)]


def best_plan_of(first, second):
    """The rows of the best plan of two lists of chances, by the document's words."""
    points = range(len(first))
    shared = [min(both) for both in zip(first, second)]
    rows = [list(shared[i] if i == j else Fraction(0) for j in points) for i in points]
    left = [[one - part for one, part in zip(chances, shared)] for chances in (first, second)]
    for i in points:
        for j in points:
            amount = min(left[0][i], left[1][j])
            rows[i][j] += amount
            left[0][i] -= amount
            left[1][j] -= amount
    return rows


def plan_behind(front, back, between):
    """The rows of the plan back behind the plan front, by the document's words."""
    points = range(len(between))
    return [[sum((front[i][p] * back[p][j] / between[p] for p in points if between[p] != 0), Fraction(0))
             for j in points] for i in points]


def differs(rows):
    return sum((rows[i][j] for i in range(len(rows)) for j in range(len(rows)) if i != j), Fraction(0))


def told_plan(rows):
    """How a plan is told."""
    return [len(rows) ** 2] + told_numbers([number for row in rows for number in row] + [differs(rows)])


class Model:
    """All twelve calls over fractions, answered by the document's words as directly as they can be."""

    def __init__(self):
        self.n = 0
        self.slots = []

    def answer(self, call):
        asked = ("begin", "spread", "told", "apart", "plan", "test", "behind", "image", "mix", "same", "set", "give")
        name = asked[call[0]]
        if name != "begin" and self.n == 0:
            return [-11]
        slots = {"begin": 0, "spread": 1, "told": 1, "set": 1, "behind": 3, "mix": 3}.get(name, 2)
        if not all(0 <= slot <= 3 for slot in call[1:1 + slots]):
            return [-2]
        return getattr(self, "answer_" + name)(*call[1:])

    def answer_begin(self, n):
        if not 1 <= n <= 6:
            return [-22]
        self.n = n
        self.slots = [[Fraction(1)] + [Fraction(0)] * (n - 1) for slot in range(4)]
        return [0]

    def answer_spread(self, k, count, *weights):
        if count != self.n or min(weights) < 0 or max(weights) > 20 or max(weights) == 0:
            return [-22]
        self.slots[k] = chances(weights)
        return [0]

    def answer_told(self, k):
        return [self.n] + told_numbers(self.slots[k])

    def answer_apart(self, k, l):
        more = [one - other for one, other in zip(self.slots[k], self.slots[l])]
        number = sum(2 ** point for point in range(self.n) if more[point] > 0)
        return [number] + told_numbers([sum((part for part in more if part > 0), Fraction(0))])

    def answer_plan(self, k, l):
        return told_plan(best_plan_of(self.slots[k], self.slots[l]))

    def answer_test(self, k, l, e, count, *numbers):
        if e < 1 or count != self.n ** 2:
            return [-22]
        rows = [[Fraction(number, e) for number in numbers[i * self.n:(i + 1) * self.n]] for i in range(self.n)]
        columns = [list(column) for column in zip(*rows)]
        if min(numbers) < 0 or [sum(row) for row in rows] != self.slots[k]:
            return [0]
        if [sum(column) for column in columns] != self.slots[l]:
            return [0]
        return [1] + told_numbers([differs(rows)])

    def answer_behind(self, k, l, m):
        front = best_plan_of(self.slots[k], self.slots[l])
        return told_plan(plan_behind(front, best_plan_of(self.slots[l], self.slots[m]), self.slots[l]))

    def answer_image(self, k, m, count, *points):
        if count != self.n or min(points) < 0 or max(points) >= self.n:
            return [-22]
        self.slots[m] = [sum((chance for chance, target in zip(self.slots[k], points) if target == point), Fraction(0))
                         for point in range(self.n)]
        return [0]

    def answer_mix(self, k, l, m, a, b):
        if not 1 <= b <= 20 or not 0 <= a <= b:
            return [-22]
        mixed = [Fraction(a, b) * one + (1 - Fraction(a, b)) * other
                 for one, other in zip(self.slots[k], self.slots[l])]
        if any(chance.denominator >= 10 ** 30 for chance in mixed):
            return [-75]
        self.slots[m] = mixed
        return [0]

    def answer_same(self, k, l):
        return [1] if self.slots[k] == self.slots[l] else [0]

    def answer_set(self, k, s):
        if not 0 <= s < 2 ** self.n:
            return [-22]
        inside = [chance for point, chance in enumerate(self.slots[k]) if s // 2 ** point % 2 == 1]
        return [0] + told_numbers([sum(inside, Fraction(0))])

    def answer_give(self, k, m):
        self.slots[m] = self.slots[k]
        return [0]


def by_the_words(*calls):
    """One answer for each call, as the document's words have it; all calls go to one new object."""
    model = Model()
    return [model.answer(call) for call in calls]
