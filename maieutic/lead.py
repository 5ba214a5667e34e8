"""How an asker is led from step to step by its search for states."""


class Lead:
    """Chooses the steps of a talk: what the learner wants is asked, and what it has drawn is proposed."""

    def __init__(self, talk, learner):
        self._talk = talk
        self._learner = learner
        self._shown = None

    def go_on(self):
        """Choose the next step."""
        if self._shown is not None and not self._judge():
            return
        word = self._learner.wanted(self._talk.known)
        if word is not None:
            self._talk.ask(word)
        elif self._learner.is_full():
            self._talk.end(("full",))
        else:
            self._talk.propose(self._learner.proposal())

    def go_on_from(self, word):
        """Choose the next step when a word, or a tree, was shown for which the proposal is wrong."""
        self._shown = list(word)
        self.go_on()

    def _judge(self):
        """Hold the shown word against the proposal; return False if that makes the next step."""
        word = self._shown
        answer = self._talk.known.get(tuple(word))
        if answer is None:
            self._talk.ask(word)
            return False
        if not self._learner.learn_from(word, answer):
            self._talk.end(("broken", "shown"))
            return False
        self._shown = None
        return True
