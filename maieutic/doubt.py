"""The asker for a box that answers wrongly now and then."""

from maieutic.asker import Asker
from maieutic.errors import NotAllowed, Wrong
from maieutic.learner import is_output

MAX_WRONG = 8


class DoubtAsker:
    """Does what an Asker does, but asks each word until wrong answers alone could not be so many."""

    def __init__(self, letters, outs, most, wrong):
        if not 0 <= wrong <= MAX_WRONG:
            raise NotAllowed(f"the wrong answers are from 0 to {MAX_WRONG}")
        self._asker = Asker(letters, outs, most, [])
        self._outs = outs
        self._wrong = wrong
        # How often each output was given for the word that is asked.
        self._given = {}
        self._asked = 0
        self._asked_letters = 0

    def step(self):
        """Return the present step."""
        return self._asker.step()

    def answer(self, output):
        """Take an output, right or wrong, for the asked word."""
        step = self._asker.step()
        if step[0] != "ask":
            raise Wrong("the present step is not ask")
        if not is_output(output, self._outs):
            self._asker.answer(output)
            return
        self._asked += 1
        self._asked_letters += len(step[1])
        self._given[output] = self._given.get(output, 0) + 1
        if self._given[output] > self._wrong:
            self._given = {}
            self._asker.answer(output)

    def accept(self):
        """Take it that the proposed machine is right."""
        self._asker.accept()

    def show(self, word):
        """Take a word behind which the proposed machine is wrong."""
        self._asker.show(word)

    def report(self):
        """Return the counts of steps that asked, their letters and proposals, and the longest shown length."""
        return (self._asked, self._asked_letters) + self._asker.report()[2:]
