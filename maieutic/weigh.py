"""Weighted machines: the weights of words, the rank, and the words that weigh differently."""

from math import lcm

from maieutic.errors import Alike, NotAllowed
from maieutic.fractions import ZERO, fraction, is_fraction, minus
from maieutic.machines import MAX_LETTERS, MAX_WORD, is_word
from maieutic.spans import Span, product_sum

MAX_SIZE = 12
MAX_RANK = 6


def check_weighted(machine):
    """Raise NotAllowed if the tuple is not a weighted machine."""
    letters, start, steps, end = machine
    size = len(start)
    if not 1 <= letters <= MAX_LETTERS:
        raise NotAllowed(f"a weighted machine has 1 to {MAX_LETTERS} letters, not {letters}")
    if size > MAX_SIZE:
        raise NotAllowed(f"the size is at most {MAX_SIZE}")
    if len(steps) != letters:
        raise NotAllowed("a weighted machine has one matrix for each letter")
    rows = [start, end]
    for matrix in steps:
        if len(matrix) != size:
            raise NotAllowed("a matrix has as many rows as the size says")
        rows.extend(matrix)
    for row in rows:
        if len(row) != size or not all(is_fraction(pair) for pair in row):
            raise NotAllowed("a row has as many fractions in lowest terms as the size says")


def weight_of(machine, word):
    """Return the weight of the word."""
    if not is_word(word, machine[0], MAX_WORD):
        raise NotAllowed("the word does not fit the machine")
    row, common = _whole(machine[1])
    tables = [_whole_columns(matrix) for matrix in machine[2]]
    for letter in word:
        row, common = _moved(row, common, tables[letter])
    numerator, denominator = whole_sum(row, common, machine[3])
    return fraction(numerator, denominator)


def rows_along(machine, word):
    """Return the rows into which the beginnings of the word turn the first row; the word is not checked.

    Each row is a list of integers, with a denominator that they have in common.
    """
    row, common = _whole(machine[1])
    tables = [_whole_columns(matrix) for matrix in machine[2]]
    rows = [(row, common)]
    for letter in word:
        row, common = _moved(row, common, tables[letter])
        rows.append((row, common))
    return rows


def whole_sum(row, common, weights):
    """Return the sum of the products of such a row and weights, as a numerator and a denominator."""
    numbers, own = _whole(weights)
    return (product_sum(row, numbers), common * own)


def _moved(row, common, table):
    """Return the row times a matrix, and its denominator."""
    columns, own = table
    # Long words can make very large integers, which take too long to be brought to lowest terms each time.
    return ([product_sum(row, column) for column in columns], common * own)


def rank_of(machine):
    """Return the least size of the weighted machines that weigh alike."""
    heads = [row for _, row in _met_rows(machine)]
    tails = [row for _, row in _met_rows(_backwards(machine))]
    # The rows that are met count only as far as the ends tell them from each other.
    span = Span()
    rank = 0
    for head in heads:
        if span.take([product_sum(head, tail) for tail in tails]):
            rank += 1
    return rank


def weigh_alike(first, second):
    """Return True if each word has the same weight by both machines."""
    return _first_other(first, second) is None


def weight_difference(first, second):
    """Return the first word that has another weight by the second machine."""
    word = _first_other(first, second)
    if word is None:
        raise Alike("the machines weigh alike")
    return word


def _first_other(first, second):
    """Return the first word with other weights, or None."""
    if first[0] != second[0]:
        raise NotAllowed("the machines have other letters")
    machine = _less(first, second)
    end, _ = _whole(machine[3])
    # A word whose row depends on those of earlier words weighs nothing if they weigh nothing.
    for word, row in _met_rows(machine):
        if product_sum(row, end) != 0:
            return word
    return None


def _met_rows(machine):
    """Return the words whose rows do not depend on those of earlier words, with multiples of their rows."""
    row, _ = _whole(machine[1])
    tables = [_whole_columns(matrix)[0] for matrix in machine[2]]
    span = Span()
    met = []
    queue = [([], row)]
    place = 0
    while place < len(queue):
        word, row = queue[place]
        place += 1
        if span.take(row):
            met.append((word, row))
            for letter, columns in enumerate(tables):
                queue.append((word + [letter], [product_sum(row, column) for column in columns]))
    return met


def _less(first, second):
    """Return the machine, of any size, whose weights are those of the first less those of the second."""
    behind = (ZERO,) * len(second[1])
    before = (ZERO,) * len(first[1])
    steps = []
    for one, two in zip(first[2], second[2]):
        steps.append(tuple([row + behind for row in one] + [before + row for row in two]))
    end = first[3] + tuple([minus(ZERO, number) for number in second[3]])
    return (first[0], first[1] + second[1], tuple(steps), end)


def _backwards(machine):
    """Return the machine by which each word weighs what it weighs read backwards."""
    letters, start, steps, end = machine
    turned = [tuple(list(zip(*matrix))) for matrix in steps]
    return (letters, end, tuple(turned), start)


def _whole(pairs):
    """Return integers, and a denominator with which all of them are these fractions."""
    common = 1
    for _, denominator in pairs:
        common = lcm(common, denominator)
    return ([numerator * (common // denominator) for numerator, denominator in pairs], common)


def _whole_columns(matrix):
    """Return the columns of the matrix as integers, and their denominator."""
    size = len(matrix)
    numbers, common = _whole([pair for row in matrix for pair in row])
    return ([numbers[column::size] for column in range(size)], common)
