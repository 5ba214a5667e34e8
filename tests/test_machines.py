"""[1.1] to [1.5]: errors, machines, words, and the order of words."""

import copy
import itertools
import unittest

from maieutic import errors, machines
from maieutic.errors import NotAllowed
from maieutic.machines import check_machine, comes_before, fits
from maieutic.machines import output_after, outputs_along, state_after
from tests.helper import EVEN, plain_output, plain_state, random_machine, source, words_up_to


class Errors(unittest.TestCase):
    def test_base_is_directly_under_value_error(self):
        self.assertEqual(errors.MaieuticError.__bases__, (ValueError,))

    def test_each_error_is_directly_under_the_base(self):
        for name in ("NotAllowed", "BadForm", "Missing", "Alike", "Wrong", "Broken"):
            with self.subTest(name=name):
                self.assertEqual(getattr(errors, name).__bases__, (errors.MaieuticError,))


class Constants(unittest.TestCase):
    def test_values(self):
        values = (machines.MAX_LETTERS, machines.MAX_OUTS, machines.MAX_STATES, machines.MAX_WORD,
                  machines.MAX_SHOWN)
        self.assertEqual(values, (4, 6, 30, 400, 300))


SIZES = list(itertools.product((1, 4), (1, 6), (1, 30)))


def sample(letters, outs, states):
    return random_machine(source(f"{letters} {outs} {states}"), letters, outs, states)


def with_row(machine, state, row):
    letters, outs, moves, outputs = machine
    return (letters, outs, moves[:state] + (row,) + moves[state + 1:], outputs)


def with_output(machine, state, output):
    return machine[:3] + (machine[3][:state] + (output,) + machine[3][state + 1:],)


class CheckMachine(unittest.TestCase):
    def refuse(self, machine):
        self.assertRaises(NotAllowed, check_machine, machine)

    def test_machines_of_all_extreme_sizes(self):
        for size in SIZES:
            with self.subTest(size=size):
                self.assertIsNone(check_machine(sample(*size)))

    def test_small_and_middle_machines(self):
        for size in itertools.product(range(1, 5), range(1, 7), range(1, 31, 7)):
            self.assertIsNone(check_machine(sample(*size)))

    def test_number_of_letters(self):
        for size in SIZES:
            letters, outs, moves, outputs = sample(*size)
            for wrong in (0, 5, -1):
                self.refuse((wrong, outs, moves, outputs))
            for fit in (0, 5):
                rows = tuple((row * 5)[:fit] for row in moves)
                self.refuse((fit, outs, rows, outputs))
            self.refuse((letters % 4 + 1, outs, moves, outputs))

    def test_number_of_outs(self):
        for size in SIZES:
            letters, outs, moves, outputs = sample(*size)
            for wrong in (0, 7, -1):
                self.refuse((letters, wrong, moves, outputs))
                self.refuse((letters, wrong, moves, (0,) * len(moves)))

    def test_number_of_states(self):
        for letters, outs in itertools.product((1, 4), (1, 6)):
            self.refuse((letters, outs, (), ()))
            self.refuse(sample(letters, outs, 31))
            self.refuse((letters, outs, ((0,) * letters,) * 31, (0,) * 31))

    def test_next_states(self):
        for size in SIZES:
            machine = sample(*size)
            count = len(machine[2])
            for state, letter in itertools.product((0, count - 1), (0, machine[0] - 1)):
                row = machine[2][state]
                for wrong in (-1, count):
                    changed = row[:letter] + (wrong,) + row[letter + 1:]
                    self.refuse(with_row(machine, state, changed))

    def test_outputs(self):
        for size in SIZES:
            machine = sample(*size)
            for state in (0, len(machine[2]) - 1):
                for wrong in (-1, machine[1]):
                    self.refuse(with_output(machine, state, wrong))

    def test_lengths_of_rows(self):
        for size in SIZES:
            machine = sample(*size)
            for state in (0, len(machine[2]) - 1):
                row = machine[2][state]
                self.refuse(with_row(machine, state, row[:-1]))
                self.refuse(with_row(machine, state, row + (0,)))

    def test_number_of_outputs(self):
        for size in SIZES:
            machine = sample(*size)
            self.refuse(machine[:3] + (machine[3][:-1],))
            self.refuse(machine[:3] + (machine[3] + (0,),))


class Words(unittest.TestCase):
    def functions(self):
        return (state_after, output_after, outputs_along)

    def test_empty_word(self):
        self.assertIs(fits(EVEN, []), True)
        self.assertEqual(state_after(EVEN, []), 0)
        self.assertEqual(output_after(EVEN, []), 1)
        self.assertEqual(outputs_along(EVEN, []), [1])

    def test_long_words(self):
        for letter in (0, 1):
            self.assertIs(fits(EVEN, [letter] * 400), True)
            self.assertIs(fits(EVEN, [letter] * 401), False)
        self.assertEqual(state_after(EVEN, [1] * 399), 1)
        self.assertEqual(state_after(EVEN, [1] * 400), 0)
        self.assertEqual(output_after(EVEN, [1] * 400), 1)
        self.assertEqual(outputs_along(EVEN, [1] * 400), [1, 0] * 200 + [1])
        for function in self.functions():
            self.assertRaises(NotAllowed, function, EVEN, [0] * 401)

    def test_letters_out_of_range(self):
        for letters in (1, 2, 3, 4):
            machine = random_machine(source(letters), letters, 2, 5)
            for wrong in (-1, letters, letters + 7):
                for word in ([wrong], [0, wrong], [wrong, 0], [0] * 399 + [wrong]):
                    self.assertIs(fits(machine, word), False)
                    for function in self.functions():
                        self.assertRaises(NotAllowed, function, machine, word)
            self.assertIs(fits(machine, [letters - 1, 0]), True)

    def test_all_short_words(self):
        numbers = source("short words")
        for letters in (1, 2, 3):
            machine = random_machine(numbers, letters, 6, 7)
            for word in words_up_to(letters, 4):
                self.assertIs(fits(machine, word), True)
                self.assertEqual(state_after(machine, word), plain_state(machine, word))
                self.assertEqual(output_after(machine, word), plain_output(machine, word))
                along = [plain_output(machine, word[:end]) for end in range(len(word) + 1)]
                self.assertEqual(outputs_along(machine, word), along)

    def test_arguments_stay_and_lists_are_new(self):
        word = [0, 1, 1, 0]
        kept = copy.copy(word)
        for function in (fits, state_after, output_after, outputs_along):
            function(EVEN, word)
            self.assertEqual(word, kept)
        outputs_along(EVEN, word).append(7)
        self.assertEqual(outputs_along(EVEN, word), [1, 1, 0, 1, 1])


class Order(unittest.TestCase):
    def test_all_pairs_of_short_words(self):
        words = list(words_up_to(3, 3))
        for (at, first), (other, second) in itertools.product(enumerate(words), repeat=2):
            self.assertIs(comes_before(first, second), at < other)

    def test_other_lengths(self):
        self.assertIs(comes_before([3], [0, 0]), True)
        self.assertIs(comes_before([0, 0], [3]), False)
        self.assertIs(comes_before([0] * 400, [3] * 399), False)

    def test_same_length(self):
        self.assertIs(comes_before([0, 1, 3], [0, 2, 0]), True)
        self.assertIs(comes_before([0, 2, 0], [0, 1, 3]), False)

    def test_equal_words(self):
        self.assertIs(comes_before([1, 2], [1, 2]), False)

    def test_empty_word(self):
        self.assertIs(comes_before([], [0]), True)
        self.assertIs(comes_before([0], []), False)
        self.assertIs(comes_before([], []), False)

    def test_arguments_stay(self):
        first, second = [2, 1], [1, 2]
        comes_before(first, second)
        self.assertEqual((first, second), ([2, 1], [1, 2]))


if __name__ == "__main__":
    unittest.main()
