"""[3.1], [3.2], [3.7]: lists of words that tell a machine from others."""

import itertools
import unittest

from maieutic.errors import NotAllowed
from maieutic.least import least
from maieutic.suite import MAX_EXTRA, MAX_LIST, are_told, suite_words
from tests import helper


def tell(words, first, second):
    return any(helper.plain_along(first, word) != helper.plain_along(second, word) for word in words)


def allowed(machine, extra):
    """How many words [3.2] allows."""
    letters, count = machine[0], len(least(machine)[2])
    return (count * letters + 1) * sum(letters ** power for power in range(extra + 1)) * max(1, count - 1)


class Told(unittest.TestCase):
    one = (2, 2, ((0, 1), (1, 0)), (1, 0))
    two = (2, 2, ((0, 1), (1, 1)), (1, 0))

    def test_the_constants(self):
        self.assertEqual((MAX_EXTRA, MAX_LIST), (29, 4000))

    def test_random_lists(self):
        numbers = helper.source(1)
        for _ in range(300):
            letters, outs = numbers.randrange(1, 5), numbers.randrange(1, 4)
            first = helper.random_machine(numbers, letters, outs, numbers.randrange(1, 5))
            second = helper.random_machine(numbers, letters, outs, numbers.randrange(1, 5))
            words = [[numbers.randrange(letters) for _ in range(numbers.randrange(4))]
                     for _ in range(numbers.randrange(3))]
            self.assertIs(are_told(words, first, second), tell(words, first, second))

    def test_some_word_of_the_list(self):
        for words in ([[1, 1]], [[0], [1, 1]], [[1, 1], [0]], [[], [0, 0], [0, 1, 1]]):
            self.assertIs(are_told(words, self.one, self.two), True)
        for words in ([[]], [[1], [0, 1], [1, 0]], [[0, 0, 0, 0]]):
            self.assertIs(are_told(words, self.one, self.two), False)

    def test_a_difference_behind_a_beginning_only(self):
        self.assertEqual(helper.plain_output(self.one, [1, 1, 1]), helper.plain_output(self.two, [1, 1, 1]))
        self.assertIs(are_told([[1, 1, 1]], self.one, self.two), True)
        self.assertIs(are_told([[0]], (1, 2, ((1,), (1,)), (0, 1)), (1, 2, ((0,),), (1,))), True)

    def test_a_difference_behind_the_whole_word_only(self):
        self.assertIs(are_told([[0, 0]], helper.chain(1, 3), helper.chain(1, 4)), True)

    def test_the_empty_list(self):
        self.assertIs(are_told([], (1, 2, ((0,),), (0,)), (1, 2, ((0,),), (1,))), False)

    def test_the_empty_word(self):
        self.assertIs(are_told([[]], (1, 2, ((0,),), (0,)), (1, 2, ((0,),), (1,))), True)

    def test_words_of_400_and_401_letters(self):
        first, second = helper.ring(1, 20), helper.ring(1, 21)
        self.assertIs(are_told([[0] * 400], first, second), True)
        self.assertRaises(NotAllowed, are_told, [[0] * 401], first, second)
        late = (1, 2, ((0,),), (0,))
        self.assertIs(are_told([[0] * 400], late, late), False)

    def test_words_that_do_not_fit(self):
        for bad in ([2], [0, 2], [-1], [0] * 401, [9]):
            for words in ([bad], [[0], bad], [[1, 1], bad], [bad, [1, 1]]):
                self.assertRaises(NotAllowed, are_told, words, self.one, self.two)

    def test_other_letters_or_outs(self):
        for other in ((1, 2, ((0,),), (0,)), (3, 2, ((0, 0, 0),), (0,)), (2, 3, ((0, 0),), (0,)), (2, 1, ((0, 0),), (0,))):
            self.assertRaises(NotAllowed, are_told, [[]], self.one, other)
            self.assertRaises(NotAllowed, are_told, [], other, self.one)

    def test_the_list_stays(self):
        words = [[1, 1], [0]]
        are_told(words, self.one, self.two)
        self.assertEqual(words, [[1, 1], [0]])


class Suites(unittest.TestCase):
    def check_form(self, machine, extra, words):
        """The properties that [3.2] promises of the words themselves."""
        count = len(least(machine)[2])
        longest = 1 + extra if count == 1 else 2 * count - 1 + extra
        self.assertLessEqual(len(words), allowed(machine, extra))
        self.assertEqual(words, sorted(words, key=lambda word: (len(word), word)))
        self.assertEqual(len({tuple(word) for word in words}), len(words))
        for word in words:
            self.assertIsInstance(word, list)
            self.assertLessEqual(len(word), longest)
            self.assertTrue(all(0 <= letter < machine[0] for letter in word))

    def check_all(self, letters, outs, states, extra, fits=lambda machine: True):
        """Hold each least machine of a size against all machines of up to so many states more."""
        others = [other for count in range(1, states + extra + 1)
                  for other in helper.all_machines(letters, outs, count) if fits(other)]
        for machine in helper.all_machines(letters, outs, states):
            if helper.is_least(machine):
                words = suite_words(machine, extra)
                self.check_form(machine, extra, words)
                for other in others:
                    alike = helper.shortest_difference(machine, other) is None
                    self.assertIs(tell(words, machine, other), not alike)

    def test_all_machines_of_one_letter(self):
        for outs, states, extra in ((1, 1, 0), (1, 1, 2), (2, 1, 0), (2, 1, 1), (2, 1, 3), (2, 2, 0), (2, 2, 1),
                                    (2, 3, 0), (3, 1, 1), (3, 2, 0), (3, 2, 1)):
            self.check_all(1, outs, states, extra)

    def test_all_machines_of_more_letters(self):
        for letters, outs, states, extra in ((2, 2, 1, 0), (2, 2, 1, 1), (2, 2, 2, 0), (2, 3, 1, 1), (3, 2, 1, 0),
                                             (3, 2, 1, 1), (4, 2, 1, 0), (3, 2, 2, 0)):
            self.check_all(letters, outs, states, extra)

    def test_all_machines_in_order(self):
        """Each machine answers like one whose states are in order, and all of which are reached."""
        for letters, outs, states, extra in ((1, 2, 3, 1), (1, 2, 2, 3), (1, 2, 4, 1), (2, 2, 2, 1), (2, 3, 2, 0)):
            self.check_all(letters, outs, states, extra, helper.is_numbered_in_order)

    def check_some(self, machine, extra, others):
        words = suite_words(machine, extra)
        self.check_form(machine, extra, words)
        for other in others:
            alike = helper.shortest_difference(machine, other) is None
            self.assertIs(tell(words, machine, other), not alike)
            self.assertIs(are_told(words, machine, other), not alike)

    def test_machines_of_2_and_3_states_with_an_extra_state(self):
        numbers = helper.source(2)
        others = list(helper.all_machines(2, 2, 3))
        for machine in helper.all_machines(2, 2, 2):
            if helper.is_least(machine):
                self.check_some(machine, 1, numbers.sample(others, 60))

    def test_machines_near_a_machine(self):
        numbers = helper.source(3)
        for letters, outs, states in ((1, 2, 6), (2, 2, 4), (2, 2, 6), (2, 2, 9), (3, 3, 5), (4, 2, 4), (2, 6, 8), (1, 2, 30)):
            for machine in (helper.random_machine(numbers, letters, outs, states), helper.chain(letters, states, outs),
                            helper.ring(letters, states, outs)):
                others = near(least(machine))
                self.check_some(machine, 0, numbers.sample(others, min(len(others), 40)))

    def test_machines_with_extra_states_near_a_machine(self):
        numbers = helper.source(4)
        for letters, states, extra in ((1, 3, 3), (1, 6, 6), (2, 3, 2), (2, 2, 2), (3, 2, 2), (2, 4, 3)):
            for machine in (helper.random_machine(numbers, letters, 2, states), helper.chain(letters, states)):
                small = least(machine)
                for _ in range(4):
                    others = near(longer(numbers, small, extra))
                    self.check_some(machine, extra, numbers.sample(others, min(len(others), 25)))

    def test_machines_that_differ_late(self):
        """A machine that answers like another one for as long as its states allow."""
        for states in (1, 2, 3, 5):
            for extra in (1, 2, 4):
                words = suite_words(helper.ring(1, states), extra)
                count = states + extra
                for back in range(count):
                    moves = tuple((state + 1 if state + 1 < count else back,) for state in range(count))
                    for last in (0, 1):
                        ones = tuple(int((state + 1) % states == 0) for state in range(count - 1)) + (last,)
                        outs = ones if states > 1 else (1,) * (count - 1) + (last,)
                        other = (1, 2, moves, outs)
                        alike = helper.shortest_difference(helper.ring(1, states), other) is None
                        self.assertIs(tell(words, helper.ring(1, states), other), not alike)

    def test_a_machine_that_is_not_least(self):
        numbers = helper.source(5)
        machine = helper.random_machine(numbers, 2, 2, 3)
        twice = helper.doubled(numbers, machine)
        self.check_some(twice, 1, near(least(machine)))

    def test_bounds_of_all_samples(self):
        for machine in helper.samples(helper.source(6), 30):
            for extra in (0, 1, 2, 5, 29):
                if allowed(machine, extra) <= 4000:
                    self.check_form(machine, extra, suite_words(machine, extra))
                else:
                    self.assertRaises(NotAllowed, suite_words, machine, extra)

    def test_extra_out_of_range(self):
        one = (1, 1, ((0,),), (0,))
        for extra in (-1, -30, 30, 31, 1000):
            self.assertRaises(NotAllowed, suite_words, one, extra)
        for extra in (0, 1, 29):
            self.check_form(one, extra, suite_words(one, extra))

    def test_the_number_of_words_that_are_allowed(self):
        """No suite may have 4000 words; the numbers next to it are 3990, which is allowed, and 4004."""
        at_most = {}
        for letters, states, extra in itertools.product((1, 2, 3, 4), range(1, 31), range(30)):
            machine = numbered(letters, states)
            if allowed(machine, extra) <= 4000:
                at_most[letters, states] = extra
            elif extra == 0 or at_most.get((letters, states)) == extra - 1:
                self.assertRaises(NotAllowed, suite_words, machine, extra)
        counts = [allowed(numbered(letters, states), extra) for (letters, states), extra in at_most.items()]
        self.assertEqual(max(counts), 3990)
        self.assertEqual((allowed(numbered(1, 20), 9), allowed(numbered(1, 12), 27)), (3990, 4004))
        # There are much fewer words, but that does not matter.
        self.assertLess(len(suite_words(numbered(1, 20), 9)), 100)
        self.assertRaises(NotAllowed, suite_words, numbered(1, 12), 27)
        for (letters, states), extra in at_most.items():
            if states <= 2 or allowed(numbered(letters, states), extra) > 3500:
                self.check_form(numbered(letters, states), extra, suite_words(numbered(letters, states), extra))

    def test_the_number_counts_the_least_machine(self):
        numbers = helper.source(7)
        machine = helper.ring(2, 13)
        twice = helper.doubled(numbers, machine)
        self.assertEqual(allowed(twice, 3), (13 * 2 + 1) * 15 * 12)
        self.assertRaises(NotAllowed, suite_words, twice, 3)
        self.assertEqual(suite_words(twice, 1), suite_words(machine, 1))

    def test_returned_lists_may_be_changed(self):
        words = suite_words(helper.EVEN, 0)
        words[0].append(1)
        words.append([])
        self.check_some(helper.EVEN, 0, near(helper.EVEN))


class Use(unittest.TestCase):
    """[3.7]: a suite, played on a box, is a finite test."""

    def test_a_box_that_answers_rightly_along_all_words(self):
        numbers = helper.source(8)
        for extra in (0, 1, 2):
            for _ in range(20):
                machine = helper.random_machine(numbers, 2, 2, 3)
                words = suite_words(machine, extra)
                count = len(least(machine)[2]) + extra
                for _ in range(40):
                    box = helper.random_machine(numbers, 2, 2, count)
                    right = all(helper.plain_along(box, word) == helper.plain_along(machine, word) for word in words)
                    self.assertIs(right, helper.shortest_difference(box, machine) is None)


def numbered(letters, states):
    """A least machine with so many states: it counts the letters up to its end, where it stays."""
    return (letters, 2, tuple((min(state + 1, states - 1),) * letters for state in range(states)),
            (0,) * (states - 1) + (1,))


def near(machine):
    """All machines with one move or one output changed."""
    letters, outs, moves, outputs = machine
    found = []
    for state in range(len(moves)):
        for output in range(outs):
            found.append((letters, outs, moves, outputs[:state] + (output,) + outputs[state + 1:]))
        for letter in range(letters):
            for after in range(len(moves)):
                row = moves[state][:letter] + (after,) + moves[state][letter + 1:]
                found.append((letters, outs, moves[:state] + (row,) + moves[state + 1:], outputs))
    return found


def longer(numbers, machine, extra):
    """A machine that answers alike and has so many states more, which are copies of others."""
    letters, outs, moves, outputs = machine
    own = list(range(len(moves))) + [numbers.randrange(len(moves)) for _ in range(extra)]
    copies = {state: [place for place, one in enumerate(own) if one == state] for state in range(len(moves))}
    rows = tuple(tuple(numbers.choice(copies[after]) for after in moves[state]) for state in own)
    return (letters, outs, rows, tuple(outputs[state] for state in own))


if __name__ == "__main__":
    unittest.main()
