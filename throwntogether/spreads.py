"""Spreads that are made of others, and what a spread by itself tells.

A spread is a list of weights, a point's chance being its weight by their sum.
"""

from throwntogether.fraction import greatest_in_common, told_fraction


def least_weights(weights):
    """The same spread in weights with nothing in common: else they'd double their figures with each mixture."""
    common = sum(weights)
    for weight in weights:
        common = greatest_in_common(weight, common)
    return [weight // common for weight in weights]


def image(weights, targets):
    """The spread that comes of one, if each point goes to its target."""
    found = [0] * len(weights)
    for weight, target in zip(weights, targets):
        found[target] = found[target] + weight
    return least_weights(found)


def mixture(pair, part, whole):
    """The spread that is part by whole of the pair's first one, and the rest of its second one."""
    rest = whole - part
    return least_weights([part * one + rest * other for one, other in zip(pair.first, pair.second)])


def greatest_lower(weights):
    """The greatest lower number by which one of the chances is told."""
    total = sum(weights)
    return max([told_fraction(weight, total)[1] for weight in weights])


def weight_in_set(weights, number):
    """What the points of a set have together, the set told as a number."""
    return sum([weight for point, weight in enumerate(weights) if (number >> point) & 1 == 1])
