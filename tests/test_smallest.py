"""[5.1] to [5.4], [5.6]: logs and the smallest machines that fit them."""

import copy
import itertools
import time
import unittest

from maieutic.errors import Broken, Missing, NotAllowed
from maieutic.least import least
from maieutic.smallest import MAX_LOG, MAX_LOG_LETTERS, MAX_SEEN, MAX_SMALL
from maieutic.smallest import check_log, fits_log, is_only, smallest
from tests import helper


def state_by_state(machine):
    """What machines in order with the same number of states are compared by."""
    return [number for output, row in zip(machine[3], machine[2]) for number in (output,) + row]


def fits_plainly(machine, log):
    return all(helper.plain_output(machine, word) == output for word, output in log)


def moves_in_order(letters, states):
    """All moves of machines in order with so many states."""
    def longer(rows, met):
        if len(rows) == states:
            yield tuple(rows)
        elif len(rows) < met:
            for row in itertools.product(range(states), repeat=letters):
                new = met
                for after in row:
                    if after > new:
                        break
                    new = max(new, after + 1)
                else:
                    yield from longer(rows + [row], new)
    return list(longer([], 1))


def plain_smallest(letters, outs, log):
    """The first smallest machine and their number, from the moves one by one; None if there is none."""
    for states in range(1, 5):
        found = []
        count = 0
        for moves in moves_in_order(letters, states):
            told = {}
            ends = [(helper.plain_state((letters, outs, moves, ()), word), output) for word, output in log]
            if all(told.setdefault(state, output) == output for state, output in ends):
                outputs = tuple(told.get(state, 0) for state in range(states))
                found.append((letters, outs, moves, outputs))
                count += outs ** (states - len(told))
        if found:
            return (min(found, key=state_by_state), count)
    return None


def log_of(machine, words):
    return [(word, helper.plain_output(machine, word)) for word in words]


def random_word(numbers, letters, longest=10):
    return [numbers.randrange(letters) for _ in range(numbers.randrange(longest + 1))]


def random_logs(numbers, count, letters, outs):
    """Logs of machines of all sizes, and logs of no machine, of all lengths."""
    for _ in range(count):
        size = numbers.choice((0, 1, 2, 3, 5, 8, 13, 30))
        longest = numbers.choice((1, 2, 3, 4, 10))
        words = [random_word(numbers, letters, longest) for _ in range(size)]
        if numbers.randrange(4):
            machine = helper.random_machine(numbers, letters, outs, numbers.randrange(1, 7))
            yield log_of(machine, words)
        else:
            told = {tuple(word): numbers.randrange(outs) for word in words[:8]}
            yield [(list(word), output) for word, output in told.items()]


class Checks(unittest.TestCase):
    def refused(self, error, letters, outs, log):
        for call in (check_log, smallest, is_only):
            self.assertRaises(error, call, letters, outs, log)

    def allowed(self, letters, outs, log):
        self.assertIsNone(check_log(letters, outs, log))

    def test_the_constants(self):
        self.assertEqual((MAX_LOG_LETTERS, MAX_LOG, MAX_SEEN, MAX_SMALL), (2, 30, 10, 4))

    def test_letters(self):
        for letters in (1, 2):
            self.allowed(letters, 2, [])
        for letters in (-1, 0, 3, 4, 5):
            self.refused(NotAllowed, letters, 2, [])

    def test_outs(self):
        for outs in (1, 2, 5, 6):
            self.allowed(2, outs, [])
        for outs in (-1, 0, 7, 8):
            self.refused(NotAllowed, 2, outs, [])

    def test_the_number_of_pairs(self):
        self.allowed(1, 2, [([0], 1)] * 30)
        self.refused(NotAllowed, 1, 2, [([0], 1)] * 31)
        words = list(helper.words_up_to(2, 4))
        self.allowed(2, 2, [(word, 0) for word in words[:30]])
        self.refused(NotAllowed, 2, 2, [(word, 0) for word in words[:31]])

    def test_the_length_of_a_word(self):
        self.allowed(1, 2, [([0] * 10, 1)])
        self.refused(NotAllowed, 1, 2, [([0] * 11, 1)])
        self.refused(NotAllowed, 1, 2, [([], 1), ([0] * 11, 1)])

    def test_the_letters_of_a_word(self):
        self.allowed(2, 2, [([0, 1], 1)])
        for word in ([2], [0, 2], [-1], [1, -1, 1], [9]):
            self.refused(NotAllowed, 2, 2, [(word, 1)])
            self.refused(NotAllowed, 2, 2, [([], 0), (word, 1)])
        self.refused(NotAllowed, 1, 2, [([1], 1)])

    def test_outputs(self):
        self.allowed(1, 3, [([], 2), ([0], 0)])
        for output in (-1, 3, 4):
            self.refused(NotAllowed, 1, 3, [([], output)])
            self.refused(NotAllowed, 1, 3, [([0], 0), ([], output)])
        self.refused(NotAllowed, 1, 1, [([], 1)])

    def test_a_word_with_two_outputs(self):
        for log in ([([0], 0), ([0], 1)], [([], 1), ([0], 1), ([], 0)], [([0], 1)] * 29 + [([0], 0)]):
            self.refused(Broken, 1, 2, log)
        self.allowed(1, 2, [([0], 1), ([0], 1)])

    def test_two_errors_at_once(self):
        """NotAllowed comes before Broken, wherever its reason stands, and Broken before Missing."""
        twice = [([0], 0), ([0], 1)]
        for letters, outs, more in ((3, 2, []), (0, 2, []), (1, 7, []), (1, 0, []), (1, 2, [([0], 1)] * 29),
                                    (1, 2, [([0] * 11, 0)]), (1, 2, [([1], 0)]), (1, 2, [([], 2)]), (1, 2, [([], -1)])):
            self.refused(NotAllowed, letters, outs, twice + more)
            self.refused(NotAllowed, letters, outs, more + twice)
        many = log_of(helper.chain(1, 6), helper.words_up_to(1, 8))
        self.assertRaises(Missing, smallest, 1, 2, many)
        self.refused(Broken, 1, 2, many + twice)


class Fitting(unittest.TestCase):
    def test_random_logs(self):
        numbers = helper.source(1)
        for log in random_logs(numbers, 60, 2, 2):
            machine = helper.random_machine(numbers, 2, 2, numbers.randrange(1, 4))
            self.assertIs(fits_log(machine, log), fits_plainly(machine, log))
            self.assertIs(fits_log(machine, log_of(machine, [word for word, _ in log])), True)

    def test_the_empty_log(self):
        self.assertIs(fits_log(helper.EVEN, []), True)

    def test_pairs_that_are_there_twice(self):
        self.assertIs(fits_log(helper.EVEN, [([1], 0), ([1], 0)]), True)
        self.assertIs(fits_log(helper.EVEN, [([1], 0), ([1], 1)]), False)
        self.assertIs(fits_log(helper.EVEN, [([1], 1), ([1], 0)]), False)

    def test_one_pair_that_does_not_fit(self):
        right = [([], 1), ([1], 0), ([1, 1], 1)]
        for place in range(3):
            log = [(word, 1 - output if at == place else output) for at, (word, output) in enumerate(right)]
            self.assertIs(fits_log(helper.EVEN, log), False)
        self.assertIs(fits_log(helper.EVEN, right), True)

    def test_words_that_do_not_fit_the_machine(self):
        for word in ([2], [1, 3], [-1], [0] * 401):
            self.assertIs(fits_log(helper.EVEN, [(word, 0)]), False)
            self.assertIs(fits_log(helper.EVEN, [(word, 1)]), False)
            self.assertIs(fits_log(helper.EVEN, [([], 1), (word, 1)]), False)
        self.assertIs(fits_log(helper.EVEN, [([0] * 400, 1)]), True)

    def test_outputs_that_the_machine_does_not_have(self):
        for output in (2, -1, 7):
            self.assertIs(fits_log(helper.EVEN, [([], output)]), False)

    def test_machines_and_logs_of_any_size(self):
        machine = helper.ring(3, 30)
        self.assertIs(fits_log(machine, log_of(machine, [[0, 1, 2] * 100 for _ in range(50)])), True)


class Smallest(unittest.TestCase):
    def check(self, letters, outs, log):
        """Hold both functions against the search from the moves one by one."""
        given = copy.deepcopy(log)
        plain = plain_smallest(letters, outs, log)
        if plain is None:
            self.assertRaises(Missing, smallest, letters, outs, log)
            self.assertRaises(Missing, is_only, letters, outs, log)
        else:
            self.assertEqual(smallest(letters, outs, log), plain[0])
            self.assertIs(is_only(letters, outs, log), plain[1] == 1)
        self.assertEqual(log, given)
        return plain

    def all_in_order(self, letters, outs, states):
        """All machines in order with up to so many states, in the order of [5.3]."""
        found = []
        for count in range(1, states + 1):
            some = [machine for machine in helper.all_machines(letters, outs, count)
                    if helper.is_numbered_in_order(machine)]
            found += sorted(some, key=state_by_state)
        return found

    def check_all(self, letters, outs, states, logs):
        """Hold both functions against a search through all machines in the order of [5.3]."""
        order = self.all_in_order(letters, outs, states)
        sizes = {}
        for log in logs:
            fitting = [machine for machine in order if fits_plainly(machine, log)]
            if not fitting:
                if states == 4:
                    self.assertRaises(Missing, smallest, letters, outs, log)
                    self.assertRaises(Missing, is_only, letters, outs, log)
                sizes[None] = True
                continue
            few = [machine for machine in fitting if len(machine[2]) == len(fitting[0][2])]
            self.assertEqual(smallest(letters, outs, log), fitting[0])
            self.assertIs(is_only(letters, outs, log), len(few) == 1)
            sizes[len(fitting[0][2])] = True
        self.assertEqual(set(sizes), {None} | set(range(1, states + 1)))

    def test_one_letter_and_all_machines_of_up_to_4_states(self):
        numbers = helper.source(2)
        self.check_all(1, 2, 4, list(random_logs(numbers, 400, 1, 2)))
        self.check_all(1, 3, 4, list(random_logs(numbers, 200, 1, 3)))

    def test_all_logs_of_one_letter(self):
        """Each word of up to 5 letters has one of the outputs or is not there."""
        logs = []
        for outputs in itertools.product((None, 0, 1), repeat=6):
            logs.append([([0] * size, output) for size, output in enumerate(outputs) if output is not None])
        self.check_all(1, 2, 4, logs + [log_of(helper.chain(1, 6), helper.words_up_to(1, 8))])

    def test_two_letters_and_all_machines_of_up_to_3_states(self):
        numbers = helper.source(3)
        self.check_all(2, 2, 3, list(random_logs(numbers, 200, 2, 2)))

    def test_two_letters_and_up_to_4_states(self):
        numbers = helper.source(4)
        sizes = {}
        for outs in (1, 2, 3, 6):
            for log in random_logs(numbers, 8, 2, outs):
                plain = self.check(2, outs, log)
                sizes[plain and len(plain[0][2])] = True
        machine = helper.random_machine(numbers, 2, 2, 9)
        self.assertIsNone(self.check(2, 2, log_of(machine, list(helper.words_up_to(2, 4))[1:])))
        self.assertEqual(set(sizes), {1, 2, 3, 4})

    def test_the_empty_log(self):
        for letters, outs in itertools.product((1, 2), (1, 2, 6)):
            self.assertEqual(smallest(letters, outs, []), (letters, outs, ((0,) * letters,), (0,)))
            self.assertIs(is_only(letters, outs, []), outs == 1)

    def test_pairs_that_are_there_twice(self):
        log = [([], 1), ([0], 0), ([0, 0], 1)]
        self.assertEqual(smallest(1, 2, log * 10), smallest(1, 2, log))
        self.assertIs(is_only(1, 2, log * 10), True)

    def test_the_order_of_the_log(self):
        numbers = helper.source(5)
        for log in random_logs(numbers, 40, 2, 2):
            other = list(log)
            numbers.shuffle(other)
            try:
                machine = smallest(2, 2, log)
            except Missing:
                self.assertRaises(Missing, smallest, 2, 2, other)
                continue
            self.assertEqual(smallest(2, 2, other), machine)
            self.assertIs(is_only(2, 2, other), is_only(2, 2, log))

    def test_outputs_are_compared_before_moves(self):
        """The first machine in this order is not the one with the first moves."""
        log = [([0], 1), ([1], 0)]
        self.assertEqual(smallest(2, 2, log), (2, 2, ((1, 0), (0, 0)), (0, 1)))
        self.check(2, 2, log)
        for outputs in itertools.product((None, 0, 1), repeat=7):
            words = list(helper.words_up_to(2, 2))
            log = [(word, output) for word, output in zip(words, outputs) if output is not None]
            if sum(output is not None for output in outputs) == 4:
                self.check(2, 2, log)

    def test_missing(self):
        """Five states are needed, and there are as many pairs of all kinds."""
        self.assertRaises(Missing, smallest, 1, 2, log_of(helper.chain(1, 5), helper.words_up_to(1, 5)))
        self.assertEqual(smallest(1, 2, log_of(helper.chain(1, 4), helper.words_up_to(1, 5))),
                         (1, 2, ((1,), (2,), (3,), (3,)), (0, 0, 0, 1)))
        five = [([], 0), ([0], 1), ([0, 0], 2), ([0] * 3, 3), ([0] * 4, 4)]
        self.assertRaises(Missing, smallest, 2, 6, five)
        self.assertRaises(Missing, is_only, 2, 6, five)
        self.check(2, 6, five[:4])

    def test_a_log_with_much_work(self):
        """Words that all say the same and one that does not: few machines are barred early."""
        numbers = helper.source(6)
        slowest = 0
        for seed in range(6):
            words = {tuple(numbers.randrange(2) for _ in range(10)): 0 for _ in range(30)}
            log = [(list(word), int(place == seed)) for place, word in enumerate(words)]
            begun = time.process_time()
            try:
                smallest(2, 2, log)
                is_only(2, 2, log)
            except Missing:
                pass
            slowest = max(slowest, time.process_time() - begun)
            if seed < 2:
                self.check(2, 2, log)
        self.assertLess(slowest, 5)


class WhatHolds(unittest.TestCase):
    """[5.6]."""

    def test_all_words_of_a_machine(self):
        """The log of all words of up to 2 * n - 1 letters has the least machine as its only smallest one."""
        for letters, outs, states in ((1, 2, 1), (1, 2, 2), (1, 2, 3), (1, 2, 4), (1, 3, 3), (2, 2, 1), (2, 2, 2), (2, 3, 2)):
            words = list(helper.words_up_to(letters, 2 * states - 1))
            self.assertLessEqual(len(words), 30)
            for machine in helper.all_machines(letters, outs, states):
                if helper.is_least(machine):
                    self.assertEqual(smallest(letters, outs, log_of(machine, words)), machine)
                    self.assertIs(is_only(letters, outs, log_of(machine, words)), True)

    def test_a_machine_with_more_states(self):
        for states in (5, 6, 7):
            log = log_of(helper.chain(1, states), helper.words_up_to(1, min(2 * states - 1, 10)))
            self.assertRaises(Missing, smallest, 1, 2, log)

    def test_the_smallest_machine_is_not_greater_than_one_that_fits(self):
        numbers = helper.source(7)
        for _ in range(80):
            machine = helper.random_machine(numbers, 2, 3, numbers.randrange(1, 5))
            log = log_of(machine, [random_word(numbers, 2) for _ in range(30)])
            found = smallest(2, 3, log)
            self.assertLessEqual(len(found[2]), len(least(machine)[2]))
            self.assertTrue(fits_plainly(found, log))
            self.assertTrue(helper.is_numbered_in_order(found))


if __name__ == "__main__":
    unittest.main()
