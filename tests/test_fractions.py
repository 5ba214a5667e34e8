"""[6.1]: fractions, and equations with them."""

import copy
import fractions
import itertools
import unittest

from maieutic.errors import Missing, NotAllowed
from maieutic.fractions import fraction, is_fraction, minus, over, plus, solve, times
from tests.helper import source
from tests.helper_weights import ONE, ZERO, pair, random_fraction, table_rank, value


def large(numbers, digits):
    return numbers.randrange(10 ** (digits - 1), 10 ** digits)


class One(unittest.TestCase):
    def test_lowest_terms_and_signs(self):
        for numerator, denominator in itertools.product(range(-13, 14), repeat=2):
            if denominator:
                found = fraction(numerator, denominator)
                self.assertEqual(found, pair(fractions.Fraction(numerator, denominator)))
                self.assertIsInstance(found, tuple)
                self.assertTrue(is_fraction(found))

    def test_examples_of_signs(self):
        self.assertEqual(fraction(6, 4), (3, 2))
        self.assertEqual(fraction(-6, 4), (-3, 2))
        self.assertEqual(fraction(6, -4), (-3, 2))
        self.assertEqual(fraction(-6, -4), (3, 2))
        self.assertEqual(fraction(7, -1), (-7, 1))

    def test_0(self):
        for denominator in (1, 2, -1, -7, 10 ** 70, -10 ** 70):
            self.assertEqual(fraction(0, denominator), (0, 1))

    def test_a_denominator_of_0(self):
        for numerator in (-1, 0, 1, 10 ** 70):
            self.assertRaises(NotAllowed, fraction, numerator, 0)

    def test_large_integers(self):
        numbers = source("large")
        for digits in (60, 61, 200, 1000):
            one, two, common = large(numbers, digits), large(numbers, digits), large(numbers, digits)
            self.assertEqual(fraction(one * common, -two * common), pair(fractions.Fraction(-one, two)))
            self.assertEqual(fraction(one * common, one), (common, 1))


class Whether(unittest.TestCase):
    def test_small_pairs(self):
        for numerator, denominator in itertools.product(range(-9, 10), repeat=2):
            right = denominator > 0 and pair(fractions.Fraction(numerator, denominator)) == (numerator, denominator)
            self.assertIs(is_fraction((numerator, denominator)), right)

    def test_pairs_that_are_none(self):
        for wrong in ((0, 2), (0, 0), (0, -1), (1, 0), (-1, 0), (1, -1), (3, -2), (2, 4), (-2, 4), (4, 2), (6, 3)):
            self.assertIs(is_fraction(wrong), False)
        for right in ((0, 1), (1, 1), (-1, 1), (3, 2), (-3, 2), (2, 3), (5, 1)):
            self.assertIs(is_fraction(right), True)

    def test_large_pairs(self):
        self.assertIs(is_fraction((10 ** 80 + 1, 10 ** 80)), True)
        self.assertIs(is_fraction((10 ** 80 + 2, 10 ** 80)), False)
        self.assertIs(is_fraction((10 ** 80 + 1, -10 ** 80)), False)
        self.assertIs(is_fraction((0, 10 ** 80)), False)


class Reckoning(unittest.TestCase):
    def check(self, first, second):
        one, two = value(first), value(second)
        self.assertEqual(plus(first, second), pair(one + two))
        self.assertEqual(minus(first, second), pair(one - two))
        self.assertEqual(times(first, second), pair(one * two))
        if two:
            self.assertEqual(over(first, second), pair(one / two))
        else:
            self.assertRaises(NotAllowed, over, first, second)

    def test_small_ones(self):
        some = sorted({pair(fractions.Fraction(n, d)) for n in range(-5, 6) for d in range(1, 6)})
        for first, second in itertools.product(some, repeat=2):
            self.check(first, second)

    def test_large_ones(self):
        numbers = source("large ones")
        for digits in (60, 75, 300):
            for _ in range(10):
                first = fraction(numbers.choice((-1, 1)) * large(numbers, digits), large(numbers, digits))
                second = fraction(numbers.choice((-1, 1)) * large(numbers, digits), large(numbers, digits))
                self.check(first, second)
                self.check(first, first)
                self.check(first, ZERO)
                self.check(ZERO, first)

    def test_over_0(self):
        for first in (ZERO, ONE, (-3, 2), (10 ** 60, 7)):
            self.assertRaises(NotAllowed, over, first, (0, 1))

    def test_over_a_number_below_0(self):
        self.assertEqual(over((1, 2), (-3, 4)), (-2, 3))
        self.assertEqual(over((-1, 2), (-3, 4)), (2, 3))


class Solve(unittest.TestCase):
    def check(self, rows, right):
        """Solve, and hold the solution against each column."""
        kept = copy.deepcopy((rows, right))
        if table_rank([[value(number) for number in row] for row in rows]) < len(right):
            self.assertRaises(Missing, solve, rows, right)
            self.assertEqual((rows, right), kept)
            return False
        found = solve(rows, right)
        self.assertEqual((rows, right), kept)
        self.assertEqual(len(found), len(rows))
        self.assertTrue(all(is_fraction(number) for number in found))
        for column, wanted in enumerate(right):
            total = sum(value(number) * value(row[column]) for number, row in zip(found, rows))
            self.assertEqual(pair(fractions.Fraction(total)), wanted)
        return True

    def test_no_rows(self):
        self.assertEqual(solve([], []), [])

    def test_one_row(self):
        self.assertEqual(solve([[(2, 3)]], [(1, 2)]), [(3, 4)])
        self.assertEqual(solve([[(2, 3)]], [ZERO]), [ZERO])
        for right in (ZERO, ONE):
            self.assertRaises(Missing, solve, [[ZERO]], [right])

    def test_columns_and_rows_are_not_mixed_up(self):
        rows = [[(1, 1), (2, 1)], [(3, 1), (5, 1)]]
        self.assertEqual(solve(rows, [(10, 1), (18, 1)]), [(4, 1), (2, 1)])

    def test_random_rows(self):
        numbers = source("rows")
        solved = 0
        for size in range(1, 7):
            for high, low in ((1, 1), (2, 1), (4, 3), (10 ** 60, 10 ** 60)):
                for _ in range(12):
                    rows = [[random_fraction(numbers, high, low) for _ in range(size)] for _ in range(size)]
                    solved += self.check(rows, [random_fraction(numbers, high, low) for _ in range(size)])
        self.assertGreater(solved, 150)

    def test_rows_of_which_many_are_0(self):
        # Here the first row in question has a 0 where it would be needed.
        numbers = source("many zeros")
        for size in range(2, 7):
            for _ in range(20):
                order = list(range(size))
                numbers.shuffle(order)
                rows = [[ONE if column == place else ZERO for column in range(size)] for place in order]
                self.check(rows, [random_fraction(numbers, 4, 3) for _ in range(size)])
                for row in rows:
                    row[numbers.randrange(size)] = (2, 1)
                self.check(rows, [random_fraction(numbers, 4, 3) for _ in range(size)])

    def test_rows_that_depend_on_each_other(self):
        numbers = source("depend")
        for size in range(2, 7):
            for _ in range(10):
                rows = [[random_fraction(numbers, 4, 3) for _ in range(size)] for _ in range(size - 1)]
                factors = [random_fraction(numbers, 2, 2) for _ in rows]
                last = [fractions.Fraction(0)] * size
                for factor, row in zip(factors, rows):
                    last = [one + value(factor) * value(number) for one, number in zip(last, row)]
                rows.insert(numbers.randrange(size), [pair(number) for number in last])
                # The right side may be none of their sums, or one in many ways: there is not exactly one solution.
                for right in ([random_fraction(numbers, 4, 3) for _ in range(size)], list(rows[0]), [ZERO] * size):
                    self.assertFalse(self.check(rows, right))

    def test_a_zero_row_and_a_zero_column(self):
        numbers = source("zero")
        for size, place in itertools.product(range(1, 7), range(6)):
            if place < size:
                rows = [[random_fraction(numbers, 4, 3) for _ in range(size)] for _ in range(size)]
                without = [[ZERO] * size if number == place else list(row) for number, row in enumerate(rows)]
                self.assertFalse(self.check(without, [ZERO] * size))
                without = [row[:place] + [ZERO] + row[place + 1:] for row in rows]
                self.assertFalse(self.check(without, [ONE] * size))
                self.assertFalse(self.check(without, [ZERO] * size))

    def test_the_returned_list_may_be_changed(self):
        rows, right = [[ONE, ZERO], [ZERO, ONE]], [(2, 1), (3, 1)]
        found = solve(rows, right)
        found.append(ONE)
        found[0] = ZERO
        self.assertEqual((rows, right), ([[ONE, ZERO], [ZERO, ONE]], [(2, 1), (3, 1)]))
        self.assertEqual(solve(rows, right), [(2, 1), (3, 1)])


if __name__ == "__main__":
    unittest.main()
