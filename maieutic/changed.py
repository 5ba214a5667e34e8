"""The asker for a box that was a machine, and may have changed."""

from maieutic.asker import Asker
from maieutic.errors import NotAllowed
from maieutic.learner import WordTalk, check_numbers
from maieutic.least import least
from maieutic.machines import check_machine


class ChangedAsker:
    """Proposes the machine that it was first; if that is wrong, it begins anew."""

    def __init__(self, machine, most):
        check_machine(machine)
        self._numbers = (machine[0], machine[1], most)
        check_numbers(machine[0], machine[1], most)
        self._first = least(machine)
        if len(self._first[2]) > most:
            raise NotAllowed(f"the least machine has more than {most} states")
        self._talk = WordTalk(machine[0], machine[1], {})
        self._talk.propose(self._first)
        # The asker that begins anew when the first machine is wrong.
        self._asker = None

    def step(self):
        """Return the present step."""
        if self._asker is not None:
            return self._asker.step()
        return self._talk.present_step()

    def answer(self, output):
        """Take the output behind the asked word."""
        if self._asker is not None:
            self._asker.answer(output)
        else:
            self._talk.hear_answer(output)

    def accept(self):
        """Take it that the proposed machine is right."""
        if self._asker is not None:
            self._asker.accept()
        else:
            self._talk.hear_accept(self._first)

    def show(self, word):
        """Take a word behind which the proposed machine is wrong."""
        if self._asker is not None:
            self._asker.show(word)
        elif self._talk.hear_word(word):
            letters, outs, most = self._numbers
            self._asker = Asker(letters, outs, most, [])

    def report(self):
        """Return the counts of asked words, their letters and proposals, and the longest shown length."""
        counts = self._talk.counts()
        if self._asker is None:
            return counts
        asked, letters, proposed, longest = self._asker.report()
        return (asked, letters, counts[2] + proposed, max(counts[3], longest))
