"""The asker that finds out a weighted machine."""

from maieutic.errors import NotAllowed
from maieutic.fractions import is_fraction
from maieutic.lead import Lead
from maieutic.machines import MAX_LETTERS, MAX_SHOWN, is_word
from maieutic.talk import Talk
from maieutic.weigh import MAX_RANK
from maieutic.weight_learner import WeightLearner


class Weigher:
    """Finds out a hidden weighted machine in steps, which the caller carries out."""

    def __init__(self, letters, most):
        if not 1 <= letters <= MAX_LETTERS:
            raise NotAllowed(f"letters are from 1 to {MAX_LETTERS}")
        if not 1 <= most <= MAX_RANK:
            raise NotAllowed(f"the greatest rank is from 1 to {MAX_RANK}")
        self._letters = letters
        self._talk = Talk({})
        self._learner = WeightLearner(letters, most)
        self._lead = Lead(self._talk, self._learner)
        self._lead.go_on()

    def step(self):
        """Return the present step."""
        return self._talk.present_step()

    def answer(self, weight):
        """Take the weight of the asked word."""
        self._talk.check_fit("ask")
        if not is_fraction(weight):
            self._talk.end(("broken", "weight"))
            return
        self._talk.take_answer(weight)
        self._lead.go_on()

    def accept(self):
        """Take it that the proposed machine is right."""
        self._talk.check_fit("propose")
        self._talk.end(("done", self._learner.proposal()))

    def show(self, word):
        """Take a word whose weight by the proposed machine is wrong."""
        self._talk.check_fit("propose")
        if not is_word(word, self._letters, MAX_SHOWN):
            self._talk.end(("broken", "word"))
            return
        self._talk.take_shown(word)
        self._lead.go_on_from(word)

    def report(self):
        """Return the counts of asked words, their letters and proposals, and the longest shown length."""
        return self._talk.counts()
