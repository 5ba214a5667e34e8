"""[6.2], [6.3]: weighted machines, their ranks, and the words that weigh differently."""

import copy
import itertools
import unittest

from maieutic.errors import Alike, NotAllowed
from maieutic.weigh import MAX_RANK, MAX_SIZE, check_weighted, rank_of, weigh_alike, weight_difference, weight_of
from tests.helper import source
from tests.helper_weights import ONE, ZERO, disguised, nothing, plain_rank, plain_weight, plain_weight_difference
from tests.helper_weights import random_weighted, ring_weights, with_idle_row, with_unmet_row, words_to

NO_FRACTIONS = ((2, 4), (0, 2), (1, 0), (0, 0), (1, -1), (0, -1), (-2, -3), (6, 3))


def with_number(machine, place, number):
    """The machine with another number at a place: in start, in end, or in a matrix."""
    letters, start, steps, end = copy.deepcopy(machine)
    part = place[0]
    if part == "start":
        return (letters, start[:place[1]] + (number,) + start[place[1] + 1:], steps, end)
    if part == "end":
        return (letters, start, steps, end[:place[1]] + (number,) + end[place[1] + 1:])
    matrices = [[list(row) for row in matrix] for matrix in steps]
    matrices[place[1]][place[2]][place[3]] = number
    return (letters, start, tuple(tuple(map(tuple, matrix)) for matrix in matrices), end)


class Check(unittest.TestCase):
    def test_the_constants(self):
        self.assertEqual((MAX_SIZE, MAX_RANK), (12, 6))

    def test_sizes(self):
        numbers = source("sizes")
        for letters, size in itertools.product((1, 2, 4), (0, 1, 2, 11, 12)):
            self.assertIsNone(check_weighted(random_weighted(numbers, letters, size)))
        for letters in (1, 2, 4):
            self.assertRaises(NotAllowed, check_weighted, random_weighted(numbers, letters, 13))
            self.assertRaises(NotAllowed, check_weighted, nothing(letters, 13))

    def test_letters(self):
        for size in (0, 1, 3):
            self.assertRaises(NotAllowed, check_weighted, nothing(0, size))
            self.assertRaises(NotAllowed, check_weighted, nothing(5, size))
            for letters in (1, 2, 3, 4):
                machine = nothing(letters, size)
                self.assertIsNone(check_weighted(machine))
                for other in (-1, 0, letters - 1, letters + 1, 5):
                    self.assertRaises(NotAllowed, check_weighted, (other,) + machine[1:])

    def test_numbers_that_are_no_fractions(self):
        machine = random_weighted(source("fractions"), 2, 3)
        places = [("start", 0), ("start", 2), ("end", 0), ("end", 2), ("steps", 0, 0, 0), ("steps", 0, 2, 2),
                  ("steps", 1, 0, 2), ("steps", 1, 2, 0), ("steps", 1, 2, 2)]
        for place in places:
            self.assertIsNone(check_weighted(with_number(machine, place, (-10 ** 70, 10 ** 70 + 1))))
            for number in NO_FRACTIONS:
                self.assertRaises(NotAllowed, check_weighted, with_number(machine, place, number))

    def test_rows_and_columns_too_many_or_too_few(self):
        for letters, size in ((1, 1), (2, 2), (2, 3), (4, 2)):
            _, start, steps, end = nothing(letters, size)
            matrix = steps[0]
            longer = tuple(row + (ZERO,) for row in matrix)
            shorter = tuple(row[:-1] for row in matrix)
            matrices = [matrix + (matrix[0],), matrix[:-1], longer, shorter, (), matrix[:-1] + (longer[0],),
                        matrix[:-1] + (shorter[0],), (longer[0],) + matrix[1:], (shorter[0],) + matrix[1:]]
            for wrong in matrices:
                self.assertRaises(NotAllowed, check_weighted, (letters, start, (wrong,) + steps[1:], end))
                self.assertRaises(NotAllowed, check_weighted, (letters, start, steps[:-1] + (wrong,), end))
            self.assertRaises(NotAllowed, check_weighted, (letters, start, steps + (matrix,), end))
            self.assertRaises(NotAllowed, check_weighted, (letters, start, steps[:-1], end))
            self.assertRaises(NotAllowed, check_weighted, (letters, start, (), end))
            for other in (start + (ZERO,), start[:-1], ()):
                self.assertRaises(NotAllowed, check_weighted, (letters, other, steps, end))
                self.assertRaises(NotAllowed, check_weighted, (letters, start, steps, other))
                self.assertRaises(NotAllowed, check_weighted, (letters, other, steps, other))

    def test_rows_of_the_size_0(self):
        self.assertIsNone(check_weighted((2, (), ((), ()), ())))
        for wrong in ((2, (), ((),), ()), (2, (), ((), (), ()), ()), (2, (), ((), ((),)), ()), (2, (ONE,), ((), ()), ()),
                      (2, (), ((), ()), (ONE,)), (2, (ONE,), ((), ()), (ONE,))):
            self.assertRaises(NotAllowed, check_weighted, wrong)


class Weights(unittest.TestCase):
    def test_short_words(self):
        numbers = source("short words")
        for letters, size in itertools.product((1, 2, 4), (0, 1, 2, 3, 5)):
            machine = random_weighted(numbers, letters, size)
            for word in words_to(letters, 3 if letters < 4 else 2):
                self.assertEqual(weight_of(machine, word), plain_weight(machine, word))

    def test_the_size_0_and_the_empty_word(self):
        for word in ([], [0], [1, 0, 1], [1] * 400):
            self.assertEqual(weight_of(nothing(2), word), (0, 1))
        machine = (1, ((1, 2), (2, 3)), (((ONE, ONE), (ONE, ONE)),), ((4, 1), (-6, 5)))
        self.assertEqual(weight_of(machine, []), (6, 5))

    def test_the_order_of_the_letters(self):
        # One letter adds 1, the other one doubles: read from the first letter on.
        machine = (2, (ZERO, ONE), (((ONE, ZERO), (ONE, ONE)), (((2, 1), ZERO), (ZERO, ONE))), (ONE, ZERO))
        self.assertEqual(weight_of(machine, [0, 1, 1]), (4, 1))
        self.assertEqual(weight_of(machine, [1, 1, 0]), (1, 1))

    def test_long_words(self):
        numbers = source("long words")
        for letters, size in ((1, 1), (2, 3), (4, 4)):
            machine = random_weighted(numbers, letters, size, 2, 2)
            word = [numbers.randrange(letters) for _ in range(400)]
            self.assertEqual(weight_of(machine, word), plain_weight(machine, word))

    def test_words_that_are_not_allowed(self):
        for letters, size in itertools.product((1, 2, 4), (0, 1, 3)):
            machine = nothing(letters, size)
            self.assertEqual(weight_of(machine, [letters - 1] * 400), (0, 1))
            for word in ([0] * 401, [-1], [letters], [0, letters], [letters, 0], [0] * 399 + [-1], [99]):
                self.assertRaises(NotAllowed, weight_of, machine, word)

    def test_the_word_is_not_changed(self):
        word = [0, 1, 1]
        weight_of(random_weighted(source(1), 2, 3), word)
        self.assertEqual(word, [0, 1, 1])


class Ranks(unittest.TestCase):
    def test_random_machines(self):
        numbers = source("ranks")
        for letters, size in ((1, 0), (1, 1), (1, 2), (1, 4), (1, 6), (2, 1), (2, 2), (2, 3), (2, 4), (3, 3), (4, 2), (4, 3)):
            for _ in range(6):
                machine = random_weighted(numbers, letters, size, numbers.choice((1, 3)), numbers.choice((1, 3)))
                self.assertEqual(rank_of(machine), plain_rank(machine))

    def test_sparse_machines(self):
        # Many zeros: rows that cannot be reached, that do not matter, and that depend on each other.
        numbers = source("sparse")
        seen = set()
        for _ in range(120):
            letters, size = numbers.choice((1, 2)), numbers.choice((2, 3, 4))

            def row():
                return tuple(numbers.choice((ZERO, ZERO, ONE, (-1, 1))) for _ in range(size))
            machine = (letters, row(), tuple(tuple(row() for _ in range(size)) for _ in range(letters)), row())
            rank = plain_rank(machine)
            seen.add((size, rank))
            self.assertEqual(rank_of(machine), rank)
        self.assertGreater(len(seen), 9)

    def test_disguises(self):
        numbers = source("disguises")
        for letters, size in ((1, 3), (2, 2), (2, 4), (4, 3)):
            for _ in range(4):
                machine = random_weighted(numbers, letters, size)
                rank = plain_rank(machine)
                for make in (with_unmet_row, with_idle_row):
                    larger = disguised(numbers, make(numbers, machine))
                    self.assertEqual(rank_of(larger), rank)
                    self.assertEqual(rank_of(disguised(numbers, with_idle_row(numbers, with_unmet_row(numbers, larger)))), rank)

    def test_the_size_0_and_the_zero_weight(self):
        for letters in (1, 2, 4):
            self.assertEqual(rank_of(nothing(letters)), 0)
            for size in (1, 3, 12):
                self.assertEqual(rank_of(nothing(letters, size)), 0)
        numbers = source("zero weight")
        for part in (1, 3):
            machine = list(random_weighted(numbers, 2, 4))
            machine[part] = (ZERO,) * 4
            self.assertEqual(rank_of(tuple(machine)), 0)

    def test_great_ranks(self):
        for size in range(1, 13):
            for place in {0, size // 2, size - 1}:
                self.assertEqual(rank_of(ring_weights(size, 2, place)), size)
        numbers = source("great")
        machine = random_weighted(numbers, 4, 12)
        self.assertEqual(rank_of(machine), 12)
        small = random_weighted(numbers, 2, 5)
        while len(small[1]) < 12:
            small = with_idle_row(numbers, with_unmet_row(numbers, small)) if len(small[1]) < 11 else with_idle_row(numbers, small)
        self.assertEqual(rank_of(disguised(numbers, small)), 5)


class Pairs(unittest.TestCase):
    def check_alike(self, first, second):
        self.assertIs(weigh_alike(first, second), True)
        self.assertRaises(Alike, weight_difference, first, second)

    def check_differ(self, first, second, word):
        self.assertIs(weigh_alike(first, second), False)
        self.assertEqual(weight_difference(first, second), word)

    def test_random_pairs(self):
        numbers = source("pairs")
        seen = set()
        for _ in range(150):
            letters = numbers.choice((1, 2, 2, 3))
            most = {1: 4, 2: 3, 3: 2}[letters]

            def row(size):
                return tuple(numbers.choice((ZERO, ZERO, ONE, (1, 2))) for _ in range(size))

            def machine():
                size = numbers.randrange(most + 1)
                return (letters, row(size), tuple(tuple(row(size) for _ in range(size)) for _ in range(letters)), row(size))
            first, second = machine(), machine()
            if first[1] and numbers.randrange(4):
                # Nearly the same machine: one number of a matrix is another one.
                place = ("steps", numbers.randrange(letters), numbers.randrange(len(first[1])), numbers.randrange(len(first[1])))
                second = disguised(numbers, with_number(first, place, (3, 1)), 2)
            word = plain_weight_difference(first, second)
            if word is None:
                self.check_alike(first, second)
            else:
                seen.add(len(word))
                self.assertLess(len(word), len(first[1]) + len(second[1]))
                self.check_differ(first, second, word)
        self.assertGreater(len(seen), 2)

    def test_other_sizes_and_numbers(self):
        numbers = source("other sizes")
        for letters, size in ((1, 0), (1, 2), (2, 3), (4, 4), (2, 10), (4, 10)):
            machine = random_weighted(numbers, letters, size)
            unmet, idle = with_unmet_row(numbers, machine), with_idle_row(numbers, machine)
            others = [machine, disguised(numbers, machine), disguised(numbers, unmet), disguised(numbers, idle),
                      disguised(numbers, with_unmet_row(numbers, idle))]
            for first, second in itertools.product(others, repeat=2):
                self.check_alike(first, second)

    def test_nothing(self):
        for letters, size in itertools.product((1, 4), (0, 1, 12)):
            self.check_alike(nothing(letters), nothing(letters, size))
            self.check_alike(nothing(letters, size), nothing(letters))
        self.check_differ(nothing(1), ring_weights(3, 1, 2), [0, 0])
        self.check_differ(ring_weights(3, 1, 2), nothing(1), [0, 0])

    def test_the_empty_word(self):
        numbers = source("empty")
        machine = random_weighted(numbers, 2, 3)
        other = (2, machine[1] + (ONE,), with_unmet_row(numbers, machine)[2], machine[3] + ((1, 7),))
        self.check_differ(machine, other, [])

    def test_the_first_of_several_words(self):
        # The letter 0 and the letter 1 do the same in both machines, the letters 2 and 3 do not.
        step = (((2, 1),),)
        first = (4, (ONE,), (step, step, (((3, 1),),), (((3, 1),),)), (ONE,))
        self.check_differ(first, (4, (ONE,), (step,) * 4, (ONE,)), [2])
        # 1 for the words of three letters with as many letters 0 as the machine says.
        def counts(wanted):
            rows = [tuple(ONE if after == state + 1 else ZERO for after in range(8)) for state in range(8)]
            # The states 0 to 3 are the numbers of letters with one letter 0 so far, 4 to 7 without.
            zero = [rows[state] if state < 3 else (ZERO,) * 8 for state in range(8)]
            zero[4] = tuple(ONE if after == 1 else ZERO for after in range(8))
            zero[5] = tuple(ONE if after == 2 else ZERO for after in range(8))
            zero[6] = tuple(ONE if after == 3 else ZERO for after in range(8))
            one = [rows[state] if state not in (3, 7) else (ZERO,) * 8 for state in range(8)]
            start = tuple(ONE if state == 4 else ZERO for state in range(8))
            end = tuple(ONE if state == wanted else ZERO for state in range(8))
            return (2, start, (tuple(zero), tuple(one)), end)
        self.check_differ(counts(3), nothing(2), [0, 0, 0])
        self.check_differ(counts(7), nothing(2), [1, 1, 1])
        self.check_differ(counts(3), counts(7), [0, 0, 0])

    def test_a_difference_behind_a_long_word(self):
        for one, two in ((12, 12), (7, 7), (1, 1), (6, 12), (3, 12)):
            # Two rings, the one with the factor 1 and the other with 2 (or a ring of twice the length).
            first, second = ring_weights(one, 1, one - 1), ring_weights(two, 2 if one == two else 1, two - 1)
            word = next(n for n in range(99) if plain_weight(first, [0] * n) != plain_weight(second, [0] * n))
            self.check_differ(first, second, [0] * word)
        self.check_differ(ring_weights(12, 1, 11), ring_weights(12, 2, 11), [0] * 23)

    def test_a_difference_behind_a_word_of_as_many_letters_as_there_can_be(self):
        for size in range(1, 13):
            # The weights of the second machine are 1 up to the word of size letters, which weighs 2.
            rows = [tuple(ONE if after == state + 1 else ZERO for after in range(size)) for state in range(size - 1)]
            rows.append(((2, 1),) + (ZERO,) * (size - 1))
            second = (1, (ONE,) + (ZERO,) * (size - 1), (tuple(rows),), (ONE,) * size)
            self.check_differ((1, (ONE,), (((ONE,),),), (ONE,)), second, [0] * size)

    def test_other_letters(self):
        for one, two in itertools.permutations((1, 2, 3, 4), 2):
            for first, second in ((nothing(one), nothing(two)), (nothing(one, 2), nothing(two, 2))):
                self.assertRaises(NotAllowed, weigh_alike, first, second)
                self.assertRaises(NotAllowed, weight_difference, first, second)

    def test_the_returned_word_may_be_changed(self):
        first, second = ring_weights(3, 1, 2), nothing(1)
        weight_difference(first, second).append(5)
        self.assertEqual(weight_difference(first, second), [0, 0])


if __name__ == "__main__":
    unittest.main()
