"""A ground with its slots, and the answers to a list of calls on it."""

from throwntogether.fraction import told_fraction, told_fractions
from throwntogether.plans import Behind, Pair, best_plan, differing, in_one_row, in_rows, is_plan, set_number, surplus
from throwntogether.spreads import greatest_lower, image, least_weights, mixture, weight_in_set

NO_SLOT = -2
NOT_BEGUN = -11
WRONG_NUMBERS = -22
TOO_FINE = -75

SLOT_COUNT = 4
MOST_POINTS = 6
MOST_WEIGHT = 20
MOST_PARTS = 20

BEGIN = 0


class Ground:
    """What the calls of one list keep: how many points there are, and each slot's weights."""

    def __init__(self):
        # A ground has a point at least, so 0 stands for no begin that was answered 0.
        self.points = 0
        self.weights = []


def pair_of_slots(ground, numbers):
    """The spreads of the two slots that a call names first."""
    return Pair(ground.weights[numbers[0]], ground.weights[numbers[1]])


def told_plan(rows, lower):
    """How a plan is told, each number by lower: how many there are, these, and how often it differs."""
    cells = in_one_row(rows)
    return [len(cells)] + told_fractions(cells + [differing(rows)], lower)


def answer_begin(ground, numbers, row):
    """A new ground, all spreads surely point 0."""
    points = numbers[0]
    if points < 1 or points > MOST_POINTS:
        return [WRONG_NUMBERS]
    ground.points = points
    ground.weights = [[1] + [0] * (points - 1) for slot in range(SLOT_COUNT)]
    return [0]


def answer_spread(ground, numbers, row):
    """Put a spread into a slot."""
    fitting = [weight for weight in row if 0 <= weight <= MOST_WEIGHT]
    if len(row) != ground.points or len(fitting) != ground.points or sum(row) == 0:
        return [WRONG_NUMBERS]
    ground.weights[numbers[0]] = least_weights(fitting)
    return [0]


def answer_told(ground, numbers, row):
    """The chances of a slot's spread."""
    weights = ground.weights[numbers[0]]
    return [ground.points] + told_fractions(weights, sum(weights))


def answer_apart(ground, numbers, row):
    """Where one spread has more than another, and how far apart they are."""
    pair = pair_of_slots(ground, numbers)
    more = surplus(pair.first, pair.second)
    return [set_number(more)] + told_fraction(sum(more), pair.total)


def answer_plan(ground, numbers, row):
    """The best plan of two spreads, and how often it differs."""
    pair = pair_of_slots(ground, numbers)
    return told_plan(best_plan(pair), pair.total)


def answer_test(ground, numbers, row):
    """Whether the row's numbers are a plan of two spreads, and how often it differs."""
    lower = numbers[2]
    if lower < 1 or len(row) != ground.points * ground.points:
        return [WRONG_NUMBERS]
    plan = in_rows(row, ground.points)
    if not is_plan(plan, lower, pair_of_slots(ground, numbers)):
        return [0]
    return [1] + told_fraction(differing(plan), lower)


def answer_behind(ground, numbers, row):
    """The best plan of two spreads with that of the second one and a third one behind it."""
    behind = Behind(ground.weights[numbers[0]], ground.weights[numbers[1]], ground.weights[numbers[2]])
    return told_plan(behind.rows, behind.total)


def answer_image(ground, numbers, row):
    """Put what comes of a spread, each point going to another one, into a slot."""
    fitting = [point for point in row if 0 <= point < ground.points]
    if len(row) != ground.points or len(fitting) != ground.points:
        return [WRONG_NUMBERS]
    ground.weights[numbers[1]] = image(ground.weights[numbers[0]], fitting)
    return [0]


def answer_mix(ground, numbers, row):
    """Put a mixture of two spreads into a slot."""
    part = numbers[3]
    whole = numbers[4]
    if whole < 1 or whole > MOST_PARTS or part < 0 or part > whole:
        return [WRONG_NUMBERS]
    mixed = mixture(pair_of_slots(ground, numbers), part, whole)
    if greatest_lower(mixed) >= 10 ** 30:
        return [TOO_FINE]
    ground.weights[numbers[2]] = mixed
    return [0]


def answer_same(ground, numbers, row):
    """Whether two slots have the same spread."""
    pair = pair_of_slots(ground, numbers)
    return [1 if pair.first == pair.second else 0]


def answer_set(ground, numbers, row):
    """How likely a spread comes in a set of points."""
    number = numbers[1]
    if number < 0 or number >= 1 << ground.points:
        return [WRONG_NUMBERS]
    weights = ground.weights[numbers[0]]
    return [0] + told_fraction(weight_in_set(weights, number), sum(weights))


def answer_give(ground, numbers, row):
    """Put one slot's spread into another one, too."""
    ground.weights[numbers[1]] = list(ground.weights[numbers[0]])
    return [0]


# For each call, by its number: how many slots it names, how many whole numbers follow them, how many rows follow these.
FORMS = (
    (0, 1, 0),
    (1, 0, 1),
    (1, 0, 0),
    (2, 0, 0),
    (2, 0, 0),
    (2, 1, 1),
    (3, 0, 0),
    (2, 0, 1),
    (3, 2, 0),
    (2, 0, 0),
    (1, 1, 0),
    (2, 0, 0),
)

ANSWERING = (
    answer_begin,
    answer_spread,
    answer_told,
    answer_apart,
    answer_plan,
    answer_test,
    answer_behind,
    answer_image,
    answer_mix,
    answer_same,
    answer_set,
    answer_give,
)


def answer_call(ground, call, numbers, row):
    """The numbers that one call is answered by."""
    if call != BEGIN and ground.points == 0:
        return [NOT_BEGUN]
    slots = numbers[:FORMS[call][0]]
    if any([slot < 0 or slot >= SLOT_COUNT for slot in slots]):
        return [NO_SLOT]
    answering = ANSWERING[call]
    return answering(ground, numbers, row)


def answers(calls):
    """The answers to a list of calls on a new object: for each call how many numbers are answered, then these."""
    ground = Ground()
    answered = []
    place = 0
    while place < len(calls):
        call = calls[place]
        form = FORMS[call]
        row_place = place + 1 + form[0] + form[1]
        numbers = calls[place + 1:row_place]
        row = []
        place = row_place
        if form[2] == 1:
            place = row_place + 1 + calls[row_place]
            row = calls[row_place + 1:place]
        answer = answer_call(ground, call, numbers, row)
        answered.append(len(answer))
        answered.extend(answer)
    return answered
