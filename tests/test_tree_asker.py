"""[7.6] to [7.9]: the asker for tree machines."""

import itertools
import unittest

from maieutic.errors import NotAllowed
from maieutic.first_trees import least_tree_machine
from maieutic.tree_asker import TreeAsker
from maieutic.trees import check_tree_machine, is_tree
from tests.callers import PlainCaller
from tests.helper import digits, source
from tests.helper_trees import ALL_RANKS, all_tree_machines, answer_alike, doubling, plain_tree_difference
from tests.helper_trees import plain_tree_output, random_tree, random_tree_machine, with_treeless_state, with_twin


class TreeCaller(PlainCaller):
    def __init__(self, test, ranks, outs, most):
        self.shown_lists = ([], [0], [ranks.index(0)], [99], [0] * 401)
        super().__init__(test, TreeAsker(ranks, outs, most))
        self.ranks = ranks
        self.outs = outs
        self.most = most

    def value_by(self, machine, tree):
        return plain_tree_output(machine, tree)

    def reply(self, answer):
        self.test.assertTrue(is_tree(self.ranks, self.step()[1]))
        super().reply(answer)

    def check_bounds(self, states):
        """The bounds of [7.7], with this number of states in the place of n; most + 1 if it is greater than most."""
        n = min(states, self.most + 1)
        size = sum(n ** rank for rank in self.ranks)
        self.test.assertLessEqual(len(self.proposed), n)
        self.test.assertLessEqual(len(self.asked), n * size + n * (digits(self.longest) + 2))
        for machine in self.proposed:
            check_tree_machine(machine)
            self.test.assertEqual(machine[:2], (self.ranks, self.outs))
            self.test.assertLessEqual(len(machine[3]), min(n, self.most))
        if self.step() == ("large",):
            self.test.assertGreater((self.longest + 2) * 2 ** (n + 1), 400)


def show_first(numbers, machine, secret):
    return plain_tree_difference(machine, secret)


def show_of_size(numbers, machine, secret, sizes):
    """A tree of one of these sizes, or nearly so, if a difference is found among such trees."""
    for _ in range(30):
        tree = random_tree(numbers, secret[0], numbers.choice(sizes))
        if plain_tree_output(machine, tree) != plain_tree_output(secret, tree):
            return tree
    return plain_tree_difference(machine, secret)


def show_greater(numbers, machine, secret):
    return show_of_size(numbers, machine, secret, (3, 8, 20, 60, 150))


def show_greatest(numbers, machine, secret):
    return show_of_size(numbers, machine, secret, (400,))


SHOWERS = (show_first, show_greater, show_greatest)


class RightAnswers(unittest.TestCase):
    def find_out(self, secret, most, shower, numbers):
        caller = TreeCaller(self, secret[0], secret[1], most)
        last = caller.play(lambda tree: plain_tree_output(secret, tree),
                           lambda machine: None if answer_alike(machine, secret) else shower(numbers, machine, secret))
        found = least_tree_machine(secret)
        states = len(found[3])
        if last != ("large",):
            self.assertEqual(last, ("done", found) if states <= most else ("full",))
        caller.check_bounds(states)
        caller.check_misfits()
        return last[0]

    def test_all_small_machines(self):
        numbers = source("all small")
        for ranks, states in (((0,), 2), ((0, 1), 2), ((0, 0), 2), ((0, 2), 2), ((1, 0), 3)):
            for secret in all_tree_machines(ranks, 2, states):
                for most in (1, 2, 6):
                    self.assertNotEqual(self.find_out(secret, most, show_first, numbers), "large")

    def test_machines_of_1_to_6_states(self):
        numbers = source("one to six")
        sizes = set()
        for ranks, states, shower in itertools.product(ALL_RANKS, range(1, 7), SHOWERS):
            for outs in (1, 2, 4):
                secret = random_tree_machine(numbers, ranks, outs, states)
                count = len(least_tree_machine(secret)[3])
                sizes.add(count)
                for most in {1, max(1, count - 1), count, 6}:
                    self.find_out(secret, most, shower, numbers)
        self.assertEqual(sizes, set(range(1, 7)))

    def test_machines_that_are_not_least(self):
        numbers = source("not least")
        for ranks in ALL_RANKS:
            secret = random_tree_machine(numbers, ranks, 2, 4)
            for other in (with_twin(numbers, secret, 1), with_treeless_state(numbers, secret)):
                for most in (2, 6):
                    self.find_out(other, most, show_greater, numbers)

    def test_large_first_trees(self):
        numbers = source("large first trees")
        for states, shower in itertools.product(range(1, 7), SHOWERS):
            for most in {1, max(1, states - 1), states, 6}:
                self.find_out(doubling(states), most, shower, numbers)
                self.find_out(doubling(states, (0, 1) * 3)[:3] + (((0, 1) * 3)[:states],), most, shower, numbers)

    def test_great_trees_that_make_it_large(self):
        # Combs: all trees of 399 symbols are shown as a chain to the one side or to the other.
        numbers = source("combs")
        ends = set()
        for states in (3, 4, 5, 6):
            for _ in range(25):
                secret = random_tree_machine(numbers, (0, 0, 2), 2, states)
                for shower in (show_greatest, show_first):
                    end = self.find_out(secret, 6, shower, numbers)
                    ends.add(end)
                    self.assertTrue(end == "done" or shower == show_greatest)
        self.assertEqual(ends, {"done", "large"})

    def test_large_comes_at_once(self):
        # Only the shown tree is told 1. So the tree with the other leaf is asked, which has 400 symbols; with one
        # symbol more in the place of the leaf it would be too large.
        shown = [2] * 399 + [1]
        caller = TreeCaller(self, (0, 0, 1), 2, 6)
        last = caller.play(lambda tree: int(tree == shown), lambda machine: shown)
        self.assertEqual(last, ("large",))
        self.assertIn([2] * 399 + [0], caller.asked)
        self.assertEqual(max(len(tree) for tree in caller.asked), 400)

    def test_a_tree_that_is_shown_again_is_not_asked_again(self):
        numbers = source("shown again")
        known = []

        def judge(machine):
            if answer_alike(machine, secret):
                return None
            for tree in sorted(caller.told, key=lambda tree: (-len(tree), tree)):
                if plain_tree_output(machine, tree) != caller.told[tree]:
                    known.append(tree)
                    return list(tree)
            return show_greater(numbers, machine, secret)

        for ranks in ALL_RANKS * 3:
            secret = random_tree_machine(numbers, ranks, 2, 6)
            caller = TreeCaller(self, ranks, 2, 6)
            caller.play(lambda tree: plain_tree_output(secret, tree), judge)
            caller.check_bounds(6)
        self.assertGreater(len(known), 3)

    def test_misfits_at_each_step(self):
        numbers = source("tree misfits")
        for ranks in ((0, 1), (0, 2), (0, 0)):
            secret = random_tree_machine(numbers, ranks, 2, 4)
            caller = TreeCaller(self, ranks, 2, 6)
            while caller.step()[0] in ("ask", "propose"):
                caller.check_misfits()
                step = caller.step()
                if step[0] == "ask":
                    caller.reply(plain_tree_output(secret, step[1]))
                elif answer_alike(step[1], secret):
                    caller.accept()
                else:
                    caller.show(plain_tree_difference(step[1], secret))
            caller.check_misfits()
            self.assertEqual(caller.step(), ("done", least_tree_machine(secret)))


class FalseAnswers(unittest.TestCase):
    def check(self, ranks, outs, most, answer_to, judge):
        caller = TreeCaller(self, ranks, outs, most)
        last = caller.play(answer_to, judge)
        caller.check_bounds(most + 1)
        caller.check_misfits()
        if last[0] == "done":
            self.assertTrue(answer_alike(last[1], caller.proposed[-1]))
            self.assertEqual(last[1], least_tree_machine(caller.proposed[-1]))
            self.assertEqual(len(caller.shown), len(caller.proposed) - 1)
        elif last[0] == "broken":
            self.assertEqual(last[1], "shown")
        else:
            self.assertIn(last, (("full",), ("large",)))
        return last[0]

    def test_outputs_of_no_machine(self):
        numbers = source("no tree machine")
        ends = set()
        for ranks, most in itertools.product(ALL_RANKS, (1, 2, 4, 6)):
            for outs, patience in itertools.product((1, 2, 4), (4, 60)):
                def judge(machine):
                    if numbers.randrange(patience) == 0:
                        return None
                    return random_tree(numbers, ranks, numbers.choice((1, 2, 5, 20, 100)))
                answers = (lambda tree: numbers.randrange(outs), lambda tree: len(tree) * len(tree) // 3 % outs,
                           lambda tree: min(outs - 1, int(numbers.randrange(9) == 0)))
                for answer_to in answers:
                    ends.add(self.check(ranks, outs, most, answer_to, judge))
        self.assertEqual(ends, {"done", "full", "broken"})

    def test_answers_that_always_differ(self):
        # Each tree that is shown is then told another output than that of the proposal.
        numbers = source("stubborn trees")
        for ranks, most in itertools.product(((0, 1), (0, 2), (0, 1, 2)), (1, 3, 6)):
            caller = TreeCaller(self, ranks, 2, most)
            while caller.step()[0] in ("ask", "propose"):
                step = caller.step()
                if step[0] == "propose":
                    tree = random_tree(numbers, ranks, numbers.choice((5, 15)))
                    while tuple(tree) in caller.told:
                        tree = random_tree(numbers, ranks, numbers.randrange(15, 60))
                    caller.show(tree)
                    caller.reply(1 - plain_tree_output(step[1], tree))
                else:
                    caller.reply(int(numbers.randrange(9) == 0))
            self.assertIn(caller.step()[0], ("full", "large"))
            caller.check_bounds(most + 1)


class Reasons(unittest.TestCase):
    def secret(self, ranks):
        return random_tree_machine(source("reasons" + str(ranks)), ranks, 3, 6)

    def after(self, ranks, replies):
        """A caller that has got so many replies, and its step if it is not a last one."""
        secret = self.secret(ranks)
        caller = TreeCaller(self, ranks, 3, 6)
        for _ in range(replies):
            step = caller.step()
            if step[0] == "ask":
                caller.reply(plain_tree_output(secret, step[1]))
            elif not answer_alike(step[1], secret):
                caller.show(plain_tree_difference(step[1], secret))
        return caller

    def steps_of_kind(self, kind, ranks, most):
        """Callers at steps of this kind, behind more and more replies."""
        for replies in range(most):
            caller = self.after(ranks, replies)
            if caller.step()[0] == kind:
                yield caller

    def test_answers_that_are_no_outputs(self):
        count = 0
        for ranks in ((0, 1), (0, 0, 2), (1, 0, 2, 1)):
            for caller in self.steps_of_kind("ask", ranks, 14):
                count += 1
                caller.break_by(caller.asker.answer, (-1, 3, 99)[count % 3], "output")
        self.assertGreater(count, 12)
        for outs in (1, 2, 4):
            caller = TreeCaller(self, (0, 1), outs, 6)
            caller.break_by(caller.asker.answer, outs, "output")
            caller = TreeCaller(self, (0, 1), outs, 6)
            caller.reply(outs - 1)
            self.assertNotEqual(caller.step()[0], "broken")

    def test_lists_that_are_no_trees(self):
        for ranks in ((0, 1, 2), (0, 0, 2)):
            count = 0
            for _ in self.steps_of_kind("propose", ranks, 40):
                count += 1
            self.assertGreater(count, 0)
            wrongs = ([], [2], [0, 0], [2, 0], [2, 0, 0, 0], [3], [-1], [2, 3, 0], [2] * 200 + [0] * 201, [0] * 400)
            for wrong in wrongs:
                for caller in self.steps_of_kind("propose", ranks, 40):
                    longest = caller.longest
                    caller.break_by(caller.asker.show, wrong, "tree")
                    self.assertEqual(caller.asker.report()[3], longest)

    def test_trees_of_400_symbols_are_allowed(self):
        for tree in ([1] * 399 + [0], [1] + [2] * 199 + [0] * 200, [2, 0] * 199 + [1, 0]):
            for caller in self.steps_of_kind("propose", (0, 1, 2), 40):
                caller.show(tree)
                self.assertEqual(caller.step(), ("ask", tree))
                self.assertEqual(caller.asker.report()[3], 400)

    def test_a_shown_tree_that_was_told(self):
        broken = 0
        for ranks in ((0, 1), (0, 0, 2), (1, 1, 0)):
            for caller in self.steps_of_kind("propose", ranks, 30):
                machine = caller.step()[1]
                agreeing = [tree for tree in caller.told if plain_tree_output(machine, tree) == caller.told[tree]]
                tree = list(agreeing[-1])
                caller.show(tree)
                self.assertEqual(caller.step(), ("broken", "shown"))
                self.assertEqual(caller.asker.report()[3], max([len(tree)] + [len(one) for one in caller.shown]))
                caller.check_misfits()
                broken += 1
        self.assertGreater(broken, 3)

    def test_a_shown_tree_that_is_asked(self):
        for ranks, tree in (((0, 1), [1] * 50 + [0]), ((0, 0, 2), [2, 1] * 60 + [0])):
            for caller in self.steps_of_kind("propose", ranks, 30):
                machine = caller.step()[1]
                caller.show(tree)
                self.assertEqual(caller.step(), ("ask", tree))
                caller.check_misfits()
                caller.reply(plain_tree_output(machine, tree))
                self.assertEqual(caller.step(), ("broken", "shown"))
                self.assertEqual(caller.asker.report()[3], len(tree))
                caller.check_misfits()

    def test_last_steps_stay(self):
        numbers = source("stay")
        for last in ("done", "full", "broken", "large"):
            caller = None
            while caller is None or caller.step()[0] != last:
                if last == "broken":
                    caller = TreeCaller(self, (0, 1), 2, 6)
                    caller.break_by(caller.asker.answer, 2, "output")
                    continue
                secret = random_tree_machine(numbers, (0, 0, 2), 2, 6)
                caller = TreeCaller(self, (0, 0, 2), 2, 2 if last == "full" else 6)
                caller.play(lambda tree: plain_tree_output(secret, tree), lambda machine: None if answer_alike(
                    machine, secret) else show_greatest(numbers, machine, secret))
            step = caller.step()
            for _ in range(3):
                caller.check_misfits()
                self.assertEqual(caller.step(), step)


class Arguments(unittest.TestCase):
    def test_numbers_in_range(self):
        for ranks, outs, most in itertools.product(ALL_RANKS, (1, 2, 4), (1, 6)):
            asker = TreeAsker(ranks, outs, most)
            self.assertIn(asker.step()[0], ("ask", "propose"))
            self.assertEqual(asker.report()[0], 0)

    def test_numbers_out_of_range(self):
        for wrong in ((), (1,), (0, 3), (0, -1), (0,) * 6, (2, 1, 1)):
            self.assertRaises(NotAllowed, TreeAsker, wrong, 2, 3)
        for wrong in (-1, 0, 5):
            self.assertRaises(NotAllowed, TreeAsker, (0, 1), wrong, 3)
        for wrong in (-1, 0, 7):
            self.assertRaises(NotAllowed, TreeAsker, (0, 1), 2, wrong)

    def test_two_askers_in_turn(self):
        one, two = TreeAsker((0, 1), 2, 3), TreeAsker((0, 1), 2, 3)
        step = one.step()
        self.assertEqual(step, two.step())
        one.answer(1)
        self.assertEqual(two.step(), step)
        self.assertEqual(two.report(), (0, 0, 0, 0))


if __name__ == "__main__":
    unittest.main()
