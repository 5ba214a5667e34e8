"""The asker that finds out a tree machine."""

from maieutic.errors import NotAllowed
from maieutic.first_trees import least_tree_machine
from maieutic.lead import Lead
from maieutic.learner import is_output
from maieutic.talk import Talk
from maieutic.tree_learner import TreeLearner
from maieutic.trees import MAX_NODES, MAX_TREE_OUTS, MAX_TREE_STATES, are_ranks, is_tree


class TreeAsker:
    """Finds out a hidden tree machine in steps, which the caller carries out."""

    def __init__(self, ranks, outs, most):
        if not are_ranks(ranks):
            raise NotAllowed("the ranks of the symbols are not allowed")
        if not 1 <= outs <= MAX_TREE_OUTS:
            raise NotAllowed(f"outs are from 1 to {MAX_TREE_OUTS}")
        if not 1 <= most <= MAX_TREE_STATES:
            raise NotAllowed(f"the most states are from 1 to {MAX_TREE_STATES}")
        self._ranks = ranks
        self._outs = outs
        self._talk = Talk({})
        self._learner = TreeLearner(ranks, outs, most)
        self._lead = Lead(self._talk, self._learner)
        self._lead.go_on()

    def step(self):
        """Return the present step."""
        return self._talk.present_step()

    def answer(self, output):
        """Take the output of the asked tree."""
        self._talk.check_fit("ask")
        if not is_output(output, self._outs):
            self._talk.end(("broken", "output"))
            return
        self._talk.take_answer(output)
        self._lead.go_on()
        self._check_large()

    def accept(self):
        """Take it that the proposed machine is right."""
        self._talk.check_fit("propose")
        self._talk.end(("done", least_tree_machine(self._learner.proposal())))

    def show(self, tree):
        """Take a tree for which the proposed machine is wrong."""
        self._talk.check_fit("propose")
        if not is_tree(self._ranks, tree):
            self._talk.end(("broken", "tree"))
            return
        self._talk.take_shown(tree)
        self._lead.go_on_from(tree)
        self._check_large()

    def report(self):
        """Return the counts of asked trees, their symbols and proposals, and the symbols of the greatest shown tree."""
        return self._talk.counts()

    def _check_large(self):
        """Make it the last step if the tree that is asked is too large."""
        step = self._talk.present_step()
        if step[0] == "ask" and len(step[1]) > MAX_NODES:
            self._talk.end(("large",))
