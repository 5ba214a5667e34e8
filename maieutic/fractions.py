"""Exact fractions, and equations with them."""

from math import gcd

from maieutic.errors import Missing, NotAllowed

ZERO = (0, 1)
ONE = (1, 1)


def fraction(numerator, denominator):
    """Return the fraction with this value, in lowest terms."""
    if denominator == 0:
        raise NotAllowed("no denominator is 0")
    common = gcd(numerator, denominator)
    if denominator < 0:
        common = -common
    return (numerator // common, denominator // common)


def is_fraction(pair):
    """Return True if the pair is a fraction in lowest terms, with a positive denominator."""
    numerator, denominator = pair
    return denominator >= 1 and gcd(numerator, denominator) == 1


def plus(first, second):
    """Return the sum of two fractions."""
    return fraction(first[0] * second[1] + second[0] * first[1], first[1] * second[1])


def minus(first, second):
    """Return the first fraction less the second one."""
    return fraction(first[0] * second[1] - second[0] * first[1], first[1] * second[1])


def times(first, second):
    """Return the product of two fractions."""
    return fraction(first[0] * second[0], first[1] * second[1])


def over(first, second):
    """Return the first fraction divided by the second one, which is not 0."""
    return fraction(first[0] * second[1], first[1] * second[0])


def sum_of_products(first, second):
    """Return the sum of the products of the fractions at the same places."""
    total = ZERO
    for one, two in zip(first, second):
        total = plus(total, times(one, two))
    return total


def solve(rows, right):
    """Return the factors with which the rows have the right one as their sum, if there is just one way."""
    size = len(right)
    equations = [[row[column] for row in rows] + [right[column]] for column in range(size)]
    for place in range(size):
        _single_out(equations, place)
    return [equation[size] for equation in equations]


def _single_out(equations, place):
    """Bring an equation to this place so that it alone has the unknown of the place, with the factor 1."""
    source = place
    while source < len(equations) and equations[source][place] == ZERO:
        source += 1
    if source == len(equations):
        # The rows depend on each other: there is no way, or there are many.
        raise Missing("there is not exactly one solution")
    chosen = equations[source]
    equations[source] = equations[place]
    own = [over(number, chosen[place]) for number in chosen]
    equations[place] = own
    for other in range(len(equations)):
        if other != place:
            equations[other] = _without(equations[other], own, place)


def _without(equation, own, place):
    """Return the equation less the multiple of the other one that makes it 0 at the place."""
    factor = equation[place]
    return [minus(number, times(factor, one)) for number, one in zip(equation, own)]
