"""[3.6]: words that tell the state at their end."""

import unittest

from maieutic.errors import Missing, NotAllowed
from maieutic.home import homing_word, state_at_end
from maieutic.least import least
from tests import helper


class Homing(unittest.TestCase):
    def check(self, machine):
        small = least(machine)
        count = len(small[2])
        word = homing_word(machine)
        self.assertIsInstance(word, list)
        self.assertLessEqual(len(word), (count - 1) * (count - 1))
        self.assertTrue(all(0 <= letter < machine[0] for letter in word))
        self.assertTrue(is_homing(small, word))
        if len(word) <= 400:
            for state in range(count):
                along = helper.plain_along(small, word, state)
                self.assertEqual(state_at_end(machine, word, along), helper.plain_state(small, word, state))

    def test_small_machines(self):
        for letters, outs, states in ((1, 2, 1), (4, 1, 1), (1, 2, 3), (1, 3, 3), (2, 2, 2), (2, 2, 3)):
            for machine in helper.all_machines(letters, outs, states):
                self.check(machine)

    def test_machines_of_up_to_30_states(self):
        for machine in helper.samples(helper.source(1), 60):
            self.check(machine)

    def test_machines_of_each_size(self):
        numbers = helper.source(2)
        for states in range(1, 31):
            for machine in (helper.chain(2, states), helper.ring(1, states), helper.ring(3, states), turning(states),
                            helper.random_machine(numbers, 2, 2, states)):
                self.check(machine)

    def test_one_and_two_states(self):
        self.assertEqual(homing_word((2, 2, ((1, 0), (0, 0)), (1, 1))), [])
        self.check(helper.EVEN)
        self.assertLessEqual(len(homing_word(helper.EVEN)), 1)

    def test_the_returned_list_may_be_changed(self):
        machine = helper.ring(1, 4)
        homing_word(machine).append(9)
        self.check(machine)


class AtEnd(unittest.TestCase):
    machine = (1, 2, ((1,), (2,), (0,)), (0, 0, 1))

    def test_all_words_and_outputs(self):
        numbers = helper.source(3)
        for _ in range(60):
            machine = helper.random_machine(numbers, 2, 2, numbers.randrange(1, 5))
            small = least(machine)
            for word in helper.words_up_to(2, 3):
                for wanted in helper.words_up_to(2, 4):
                    ends = {helper.plain_state(small, word, state) for state in range(len(small[2]))
                            if helper.plain_along(small, word, state) == wanted}
                    if len(ends) == 1:
                        self.assertEqual(state_at_end(machine, word, wanted), ends.pop())
                    else:
                        error = NotAllowed if ends else Missing
                        self.assertRaises(error, state_at_end, machine, word, wanted)

    def test_from_each_state(self):
        self.assertEqual(state_at_end(self.machine, [0], [0, 0]), 1)
        self.assertEqual(state_at_end(self.machine, [0], [0, 1]), 2)
        self.assertEqual(state_at_end(self.machine, [0], [1, 0]), 0)
        self.assertEqual(state_at_end(self.machine, [], [1]), 2)

    def test_outputs_of_no_state(self):
        for outputs in ([1, 1], [0, 5], [7, 7], [-1, 0]):
            self.assertRaises(Missing, state_at_end, self.machine, [0], outputs)

    def test_too_few_or_too_many_outputs(self):
        for outputs in ([], [0], [0, 1, 0], [0, 0, 1], [1, 0, 0, 1]):
            self.assertRaises(Missing, state_at_end, self.machine, [0], outputs)
        self.assertRaises(Missing, state_at_end, self.machine, [], [])
        self.assertRaises(Missing, state_at_end, self.machine, [], [1, 0])

    def test_two_states_behind_the_word(self):
        self.assertRaises(NotAllowed, state_at_end, self.machine, [], [0])
        self.assertRaises(NotAllowed, state_at_end, helper.ring(1, 5), [0], [0, 0])

    def test_two_states_before_the_word_and_one_behind_it(self):
        machine = (1, 2, ((1,), (2,), (2,)), (0, 0, 1))
        self.assertEqual(state_at_end(machine, [0, 0], [0, 1, 1]), 2)
        merging = (2, 2, ((1, 2), (0, 2), (2, 2)), (0, 1, 1))
        self.assertEqual(state_at_end(merging, [1], [1, 1]), 2)

    def test_words_that_do_not_fit(self):
        for bad in ([1], [-1], [0, 1], [0] * 401):
            for outputs in ([0, 0], [1, 1], [], [0] * 402):
                self.assertRaises(NotAllowed, state_at_end, self.machine, bad, outputs)
        self.assertEqual(state_at_end(self.machine, [0] * 400, ([1, 0, 0] * 134)[:401]), 0)

    def test_states_are_those_of_the_least_machine(self):
        machine = (1, 2, ((2,), (2,), (3,), (0,)), (0, 1, 1, 0))
        small = least(machine)
        for state in range(3):
            along = helper.plain_along(small, [0, 0], state)
            self.assertEqual(state_at_end(machine, [0, 0], along), helper.plain_state(small, [0, 0], state))

    def test_the_lists_stay(self):
        word, outputs = [0], [0, 1]
        state_at_end(self.machine, word, outputs)
        self.assertEqual((word, outputs), ([0], [0, 1]))


def is_homing(small, word):
    ends = {}
    for state in range(len(small[2])):
        along = tuple(helper.plain_along(small, word, state))
        if ends.setdefault(along, helper.plain_state(small, word, state)) != helper.plain_state(small, word, state):
            return False
    return True


def turning(states):
    """A ring in which the letter 1 goes from each state to a state that is far away."""
    moves = tuple(((state + 1) % states, (state * 2 + 1) % states) for state in range(states))
    return (2, 2, moves, (1,) + (0,) * (states - 1))


if __name__ == "__main__":
    unittest.main()
