"""The asker for a box that cannot be shown proposals."""

from maieutic.asker import Asker
from maieutic.errors import NotAllowed, Wrong
from maieutic.learner import WordTalk
from maieutic.machines import output_after
from maieutic.suite import MAX_LIST, most_words, suite_words


class TestedAsker:
    """Does what an Asker does, but tests its proposals by suites."""

    def __init__(self, letters, outs, most):
        self._asker = Asker(letters, outs, most, [])
        for states in range(1, most + 1):
            if most_words(letters, states, most - states) > MAX_LIST:
                raise NotAllowed(f"a suite may have more than {MAX_LIST} words")
        self._most = most
        self._talk = WordTalk(letters, outs, {})
        # The beginnings that are still to be compared with the proposal, the next one last.
        self._untested = None
        self._go_on()

    def step(self):
        """Return the present step."""
        return self._talk.present_step()

    def answer(self, output):
        """Take the output behind the asked word."""
        if self._talk.hear_answer(output) is not None:
            self._go_on()

    def accept(self):
        """Raise Wrong: nothing is ever proposed."""
        raise Wrong("the present step is not propose")

    def show(self, word):
        """Raise Wrong: nothing is ever proposed."""
        raise Wrong("the present step is not propose")

    def report(self):
        """Return the counts of asked words and their letters, and two zeros."""
        return self._talk.counts()

    def _go_on(self):
        """Reply to the Asker from what is known, up to a word that is not, or to its last step."""
        step = self._asker.step()
        while step[0] in ("ask", "propose"):
            word = self._serve(step)
            if word is not None:
                self._talk.ask(word)
                return
            step = self._asker.step()
        self._talk.end(step)

    def _serve(self, step):
        """Return the word that must be known for the reply to this step; if it is, reply."""
        if step[0] == "propose":
            return self._test(step[1])
        output = self._talk.known.get(tuple(step[1]))
        if output is None:
            return step[1]
        self._asker.answer(output)
        return None

    def _test(self, machine):
        """Return the next word of the suite that is not known; if there is none, accept or show."""
        if self._untested is None:
            self._untested = _beginnings(suite_words(machine, self._most - len(machine[2])))[::-1]
        while self._untested:
            word = self._untested[-1]
            if tuple(word) not in self._talk.known:
                return word
            self._untested.pop()
            if self._talk.known[tuple(word)] != output_after(machine, word):
                self._untested = None
                self._asker.show(word)
                return None
        self._asker.accept()
        return None


def _beginnings(words):
    """Return all beginnings of the words, those of each word from the shortest one on, each once."""
    met = {}
    for word in words:
        for length in range(len(word) + 1):
            met[tuple(word[:length])] = True
    return [list(word) for word in met]
