"""How fractions are told: two whole numbers with nothing in common, the lower one 1 or more."""


def greatest_in_common(first, second):
    """The greatest number that divides both; second is 1 or more."""
    while second != 0:
        rest = first % second
        first = second
        second = rest
    return first


def least_multiple(numbers):
    """The least number that each of these, all 1 or more, divides."""
    multiple = 1
    for number in numbers:
        multiple = multiple // greatest_in_common(multiple, number) * number
    return multiple


def told_fraction(upper, lower):
    """The two numbers that tell upper by lower; lower is 1 or more."""
    common = greatest_in_common(upper, lower)
    return [upper // common, lower // common]


def told_fractions(uppers, lower):
    """One behind another, the numbers that tell each upper one by lower."""
    numbers = []
    for upper in uppers:
        numbers.extend(told_fraction(upper, lower))
    return numbers
