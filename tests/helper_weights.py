"""Weighted machines for tests, and plain computations with Python's own fractions."""

import fractions
import itertools

ZERO = (0, 1)
ONE = (1, 1)


def pair(value):
    return (value.numerator, value.denominator)


def value(number):
    return fractions.Fraction(*number)


def random_fraction(numbers, high, low):
    return pair(fractions.Fraction(numbers.randint(-high, high), numbers.randint(1, low)))


def random_weighted(numbers, letters, size, high=3, low=3):
    def row():
        return tuple(random_fraction(numbers, high, low) for _ in range(size))
    return (letters, row(), tuple(tuple(row() for _ in range(size)) for _ in range(letters)), row())


def plain_weight(machine, word):
    """The weight of the word, by [6.2] word for word."""
    row = [value(number) for number in machine[1]]
    for letter in word:
        matrix = machine[2][letter]
        row = [sum((row[i] * value(matrix[i][j]) for i in range(len(row))), fractions.Fraction(0))
               for j in range(len(row))]
    return pair(sum((one * value(two) for one, two in zip(row, machine[3])), fractions.Fraction(0)))


def table_rank(rows):
    """The rank of a table of Python's fractions."""
    rows = [list(row) for row in rows]
    rank = 0
    for column in range(len(rows[0]) if rows else 0):
        pivots = [row for row in rows[rank:] if row[column]]
        if not pivots:
            continue
        pivot = pivots[0]
        rows.remove(pivot)
        rows.insert(rank, pivot)
        for place in range(rank + 1, len(rows)):
            factor = rows[place][column] / pivot[column]
            rows[place] = [one - factor * two for one, two in zip(rows[place], pivot)]
        rank += 1
    return rank


def words_to(letters, longest):
    return [list(word) for length in range(longest + 1) for word in itertools.product(range(letters), repeat=length)]


def plain_rank(machine):
    """The rank of the table of the weights of enough words."""
    words = words_to(machine[0], max(len(machine[1]) - 1, 0))
    weights = {}
    for head, tail in itertools.product(words, repeat=2):
        if tuple(head + tail) not in weights:
            weights[tuple(head + tail)] = value(plain_weight(machine, head + tail))
    return table_rank([[weights[tuple(head + tail)] for tail in words] for head in words])


def plain_weight_difference(first, second):
    """The first word with other weights, found by trying all words that are short enough."""
    for word in words_to(first[0], len(first[1]) + len(second[1]) - 1):
        if plain_weight(first, word) != plain_weight(second, word):
            return word
    return None


def sheared(machine, i, j, factor):
    """A machine that weighs alike: factor times the row j is added to the row i of another basis."""
    letters, start, steps, end = machine
    start = [value(number) for number in start]
    start[j] -= factor * start[i]
    end = [value(number) for number in end]
    end[i] += factor * end[j]
    turned = []
    for matrix in steps:
        rows = [[value(number) for number in row] for row in matrix]
        rows[i] = [one + factor * two for one, two in zip(rows[i], rows[j])]
        for row in rows:
            row[j] -= factor * row[i]
        turned.append(tuple(tuple(pair(number) for number in row) for row in rows))
    return (letters, tuple(map(pair, start)), tuple(turned), tuple(map(pair, end)))


def disguised(numbers, machine, shears=4):
    """A machine that weighs alike, of the same size but with other numbers."""
    for _ in range(shears):
        if len(machine[1]) >= 2:
            i, j = numbers.sample(range(len(machine[1])), 2)
            machine = sheared(machine, i, j, fractions.Fraction(numbers.choice((-2, -1, 1, 3)), numbers.choice((1, 2))))
    return machine


def with_unmet_row(numbers, machine):
    """One row more, which no word leads to."""
    letters, start, steps, end = machine
    larger = []
    for matrix in steps:
        own = tuple(random_fraction(numbers, 3, 3) for _ in range(len(start) + 1))
        larger.append(tuple(row + (ZERO,) for row in matrix) + (own,))
    return (letters, start + (ZERO,), tuple(larger), end + (random_fraction(numbers, 3, 3),))


def with_idle_row(numbers, machine):
    """One row more, which does not matter for any weight."""
    letters, start, steps, end = machine
    larger = []
    for matrix in steps:
        own = (ZERO,) * len(start) + (random_fraction(numbers, 3, 3),)
        larger.append(tuple(row + (random_fraction(numbers, 3, 3),) for row in matrix) + (own,))
    return (letters, start + (random_fraction(numbers, 3, 3),), tuple(larger), end + (ZERO,))


def ring_weights(size, factor, place):
    """One letter; the word of n letters weighs factor ** (n // size) if n modulo size is the place, otherwise 0."""
    rows = []
    for state in range(size):
        row = [ZERO] * size
        row[(state + 1) % size] = ONE if state < size - 1 else (factor, 1)
        rows.append(tuple(row))
    end = tuple(ONE if state == place else ZERO for state in range(size))
    return (1, (ONE,) + (ZERO,) * (size - 1), (tuple(rows),), end)


def nothing(letters, size=0):
    """A machine by which each word weighs 0."""
    row = (ZERO,) * size
    return (letters, row, ((row,) * size,) * letters, row)
