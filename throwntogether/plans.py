"""Two spreads beside each other, and plans of both.

A spread is a list of weights, a point's chance being its weight by their sum.
"""

from throwntogether.fraction import least_multiple


def times(numbers, factor):
    """Each number times the factor."""
    return [number * factor for number in numbers]


class Pair:
    """Two spreads, their weights raised to one sum: so chances are compared and taken off as whole numbers."""

    def __init__(self, first, second):
        self.total = sum(first) * sum(second)
        self.first = times(first, sum(second))
        self.second = times(second, sum(first))


def surplus(ones, others):
    """At each point, what the ones have more than the others."""
    return [max(one - other, 0) for one, other in zip(ones, others)]


def set_number(amounts):
    """The set of the points that have an amount above 0, as a number."""
    return sum([1 << point for point, amount in enumerate(amounts) if amount > 0])


def pair_by_pair(first, second):
    """The rows of the plan that is made pair by pair, by all pairs, of two lists with the same sum."""
    left = list(second)
    plan = []
    for amount in first:
        row = []
        for point in range(len(second)):
            # As all pairs may be, what's left can always be planned: only both amounts are a limit.
            given = min(amount - sum(row), left[point])
            row.append(given)
            left[point] = left[point] - given
        plan.append(row)
    return plan


def best_plan(pair):
    """The rows of the best plan of both spreads, each number by the pair's total."""
    plan = pair_by_pair(surplus(pair.first, pair.second), surplus(pair.second, pair.first))
    for point in range(len(pair.first)):
        plan[point][point] = plan[point][point] + min(pair.first[point], pair.second[point])
    return plan


def differing(plan):
    """How much of a plan comes at different points."""
    return sum([sum(row) - row[point] for point, row in enumerate(plan)])


def in_rows(numbers, length):
    """The numbers cut into rows of that length."""
    return [numbers[start:start + length] for start in range(0, len(numbers), length)]


def in_one_row(plan):
    """The plan's numbers, row by row."""
    numbers = []
    for row in plan:
        numbers.extend(row)
    return numbers


def column_sum(plan, point):
    """What a plan has in all rows at that point of the second spread."""
    return sum([row[point] for row in plan])


def is_plan(plan, lower, pair):
    """Whether these rows, each number by lower, are a plan of both spreads."""
    if min(in_one_row(plan)) < 0:
        return False
    row_sums = [sum(row) for row in plan]
    column_sums = [column_sum(plan, point) for point in range(len(plan))]
    # One is by lower, the other by the pair's total: each is raised by the other's, so no fraction is needed.
    if times(row_sums, pair.total) != times(pair.first, lower):
        return False
    return times(column_sums, pair.total) == times(pair.second, lower)


def factors_behind(between, multiple):
    """For each point between, what makes up for its weight, as multiple by that; 0 for a point without chance."""
    return [multiple // weight if weight > 0 else 0 for weight in between]


def rows_behind(front, back, factors):
    """The rows of the plan back behind the plan front, each way over a point between times that point's factor."""
    rows = []
    for front_row in front:
        ways = [amount * factor for amount, factor in zip(front_row, factors)]
        row = [0] * len(front_row)
        for way, back_row in zip(ways, back):
            row = [had + way * amount for had, amount in zip(row, back_row)]
        rows.append(row)
    return rows


class Behind:
    """The best plan of a first spread and one between, and behind it that of the one between and a third one.

    It is kept as rows, each number by the total.
    """

    def __init__(self, first, between, third):
        front = best_plan(Pair(first, between))
        back = best_plan(Pair(between, third))
        # To divide by the chances between and stay with whole numbers, all is by a number that their weights divide.
        multiple = least_multiple([weight for weight in between if weight > 0])
        self.rows = rows_behind(front, back, factors_behind(between, multiple))
        # Both plans are by the sum between, the chance between is too: so that sum is left once.
        self.total = sum(first) * sum(between) * sum(third) * multiple
