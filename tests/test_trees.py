"""[7.1], [7.3]: ranks, trees, and tree machines."""

import itertools
import unittest

from maieutic.errors import NotAllowed
from maieutic.trees import MAX_NODES, MAX_RANK, MAX_SYMBOLS, MAX_TREE_OUTS, MAX_TREE_STATES
from maieutic.trees import are_ranks, check_tree_machine, is_tree, output_of_tree, state_of_tree
from tests.helper import source
from tests.helper_trees import ALL_RANKS, VALUES, plain_tree_output, plain_tree_state, random_tree, random_tree_machine
from tests.helper_trees import trees_up_to


class Ranks(unittest.TestCase):
    def test_the_constants(self):
        self.assertEqual((MAX_SYMBOLS, MAX_RANK, MAX_TREE_STATES, MAX_TREE_OUTS, MAX_NODES), (5, 2, 6, 4, 400))

    def test_all_short_tuples(self):
        for length in range(5):
            for ranks in itertools.product((-1, 0, 1, 2, 3), repeat=length):
                right = length > 0 and 0 in ranks and min(ranks) >= 0 and max(ranks) <= 2
                self.assertIs(are_ranks(ranks), right)

    def test_numbers_of_symbols(self):
        self.assertIs(are_ranks(()), False)
        for ranks in ((0,), (0,) * 5, (2, 2, 2, 2, 0), (1, 2, 0, 1, 2)):
            self.assertIs(are_ranks(ranks), True)
        for ranks in ((0,) * 6, (1, 2, 0, 1, 2, 0), (0,) * 7, (1,) * 5, (2, 1), (1,), (2,), (0, 3), (0, -1), (-1,), (3,)):
            self.assertIs(are_ranks(ranks), False)


class Trees(unittest.TestCase):
    def test_all_short_lists(self):
        for ranks in ((0,), (0, 1), (2, 0), (0, 1, 2), (0, 0, 2)):
            trees = set(trees_up_to(ranks, 5))
            for length in range(6):
                for symbols in itertools.product(range(-1, len(ranks) + 1), repeat=length):
                    self.assertIs(is_tree(ranks, list(symbols)), symbols in trees)

    def test_lists_that_are_none(self):
        ranks = (0, 0, 1, 2)
        self.assertIs(is_tree(ranks, [3, 1, 2, 0]), True)
        # Empty, ending too early, with symbols behind the end, with symbols that there are not.
        for wrong in ([], [3], [2], [3, 1], [3, 3, 0, 1], [3, 1, 2], [0, 0], [0, 1], [3, 0, 1, 1], [2, 0, 2], [0, 3],
                      [4], [-1], [3, 4, 0], [3, 0, -1], [2, 99], [0, 4], [0, -1]):
            self.assertIs(is_tree(ranks, wrong), False)

    def test_numbers_of_symbols(self):
        self.assertIs(is_tree((0, 1), [1] * 399 + [0]), True)
        self.assertIs(is_tree((0, 1), [1] * 400 + [0]), False)
        self.assertIs(is_tree((0, 1), [1] * 400), False)
        left, right = [2] * 199 + [0] * 200, [2, 0] * 199 + [0]
        for tree in (left, right):
            self.assertIs(is_tree((0, 1, 2), tree), True)
            self.assertIs(is_tree((0, 1, 2), [1] + tree), True)
            self.assertIs(is_tree((0, 1, 2), [1, 1] + tree), False)

    def test_the_list_is_not_changed(self):
        tree = [3, 1, 2, 0]
        is_tree(VALUES[0], tree)
        output_of_tree(VALUES, tree)
        state_of_tree(VALUES, tree)
        self.assertEqual(tree, [3, 1, 2, 0])


class Check(unittest.TestCase):
    def test_machines(self):
        numbers = source("tree machines")
        for ranks, outs, states in itertools.product(ALL_RANKS, (1, 2, 4), (1, 2, 5, 6)):
            self.assertIsNone(check_tree_machine(random_tree_machine(numbers, ranks, outs, states)))

    def refuse(self, machine):
        self.assertRaises(NotAllowed, check_tree_machine, machine)

    def test_ranks(self):
        self.refuse(((), 2, (), (0,)))
        self.refuse(((1,), 2, ((0,),), (0,)))
        self.refuse(((0, 3), 2, ((0,), (0,)), (0,)))
        self.refuse(((0, -1), 2, ((0,), (0,)), (0,)))
        self.refuse(((0,) * 6, 2, ((0,),) * 6, (0,)))

    def test_outs(self):
        for states in (1, 2):
            rules = ((0,), (0,) * states)
            for outs in (1, 2, 3, 4):
                self.assertIsNone(check_tree_machine(((0, 1), outs, rules, (outs - 1,) * states)))
                self.refuse(((0, 1), outs, rules, (0,) * (states - 1) + (outs,)))
                self.refuse(((0, 1), outs, rules, (-1,) + (0,) * (states - 1)))
            for outs in (-1, 0, 5):
                self.refuse(((0, 1), outs, rules, (0,) * states))

    def test_numbers_of_states(self):
        for states in range(9):
            machine = ((0, 1, 2), 2, ((0,), (0,) * states, (0,) * states ** 2), (0,) * states)
            if 1 <= states <= 6:
                self.assertIsNone(check_tree_machine(machine))
            else:
                self.refuse(machine)

    def test_rules(self):
        numbers = source("rules")
        for ranks, states in itertools.product(ALL_RANKS, (1, 2, 6)):
            machine = random_tree_machine(numbers, ranks, 2, states)
            rules = machine[2]
            self.refuse((ranks, 2, rules + (rules[-1],), machine[3]))
            self.refuse((ranks, 2, rules[:-1], machine[3]))
            self.refuse((ranks, 2, (), machine[3]))
            for symbol, rule in enumerate(rules):
                place = numbers.randrange(len(rule))
                for wrong in (rule + (0,), rule[:-1], (), rule[:place] + (states,) + rule[place + 1:],
                              rule[:place] + (-1,) + rule[place + 1:], rule[:-1] + (99,)):
                    self.refuse((ranks, 2, rules[:symbol] + (wrong,) + rules[symbol + 1:], machine[3]))

    def test_other_numbers_of_outputs(self):
        self.refuse(VALUES[:3] + ((0, 1, 0),))
        self.refuse(VALUES[:3] + ((0,),))
        self.refuse(VALUES[:3] + ((),))
        self.assertIsNone(check_tree_machine(VALUES))


class States(unittest.TestCase):
    def test_small_trees(self):
        numbers = source("small trees")
        for ranks, states in itertools.product(ALL_RANKS, (1, 2, 3, 6)):
            machine = random_tree_machine(numbers, ranks, 4, states)
            for tree in trees_up_to(ranks, 4 if len(ranks) > 3 else 6):
                self.assertEqual(state_of_tree(machine, list(tree)), plain_tree_state(machine, tree))
                self.assertEqual(output_of_tree(machine, list(tree)), plain_tree_output(machine, tree))

    def test_random_trees(self):
        numbers = source("random trees")
        for ranks, states in itertools.product(ALL_RANKS, (2, 6)):
            machine = random_tree_machine(numbers, ranks, 4, states)
            for most in (5, 30, 200, 400):
                tree = random_tree(numbers, ranks, most)
                self.assertEqual(state_of_tree(machine, tree), plain_tree_state(machine, tree))
                self.assertEqual(output_of_tree(machine, tree), plain_tree_output(machine, tree))

    def test_the_first_kid_and_the_second_one(self):
        # The state of a pair is that of its first kid, or of its second one.
        for part in (0, 1):
            rule = tuple((p, q)[part] for p in range(3) for q in range(3))
            machine = ((0, 0, 0, 2), 3, ((0,), (1,), (2,), rule), (2, 1, 0))
            for one, two in itertools.product(range(3), repeat=2):
                self.assertEqual(state_of_tree(machine, [3, one, two]), (one, two)[part])
                self.assertEqual(output_of_tree(machine, [3, one, two]), 2 - (one, two)[part])

    def test_chains_of_400_symbols(self):
        turn = ((0, 1), 2, ((0,), (1, 2, 0)), (0, 0, 1))
        for length in (397, 398, 399, 400):
            chain = [1] * (length - 1) + [0]
            self.assertEqual(state_of_tree(turn, chain), (length - 1) % 3)
            self.assertEqual(output_of_tree(turn, chain), int(length % 3 == 0))
        combs = ((0, 2), 2, ((0,), tuple((p + q + 1) % 5 for p in range(5) for q in range(5))), (0, 1, 0, 1, 1))
        for tree in ([1] * 199 + [0] * 200, [1, 0] * 199 + [0]):
            self.assertEqual(state_of_tree(combs, tree), 199 % 5)

    def test_lists_that_are_no_trees(self):
        for wrong in ([], [3], [3, 1], [0, 0], [3, 0, 1, 1], [4], [-1], [2, -1], [2] * 400 + [0]):
            self.assertRaises(NotAllowed, state_of_tree, VALUES, wrong)
            self.assertRaises(NotAllowed, output_of_tree, VALUES, wrong)
        self.assertEqual(output_of_tree(VALUES, [2] * 399 + [0]), 1)


if __name__ == "__main__":
    unittest.main()
