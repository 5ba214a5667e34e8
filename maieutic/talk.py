"""The talk of an asker with its caller: the present step, what was told, and the counts of the report."""

from maieutic.errors import Wrong


class Talk:
    """The present step, all that was told, and how much was asked, proposed and shown so far."""

    def __init__(self, told):
        self.known = {word: told[word] for word in told}
        self._present = ("none",)
        self._asked = 0
        self._asked_length = 0
        self._proposed = 0
        self._longest = 0

    def present_step(self):
        """Return the present step."""
        if self._present[0] == "ask":
            return ("ask", list(self._present[1]))
        return self._present

    def ask(self, word):
        """Make it the present step to ask the word."""
        self._present = ("ask", tuple(word))

    def propose(self, machine):
        """Make it the present step to propose the machine."""
        self._proposed += 1
        self._present = ("propose", machine)

    def end(self, last):
        """Make this last step the present one."""
        self._present = last

    def check_fit(self, kind):
        """Raise Wrong if the present step is of another kind."""
        if self._present[0] != kind:
            raise Wrong(f"the present step is not {kind}")

    def take_answer(self, answer):
        """Note the answer to the word that is asked, and return the word."""
        word = self._present[1]
        self.known[word] = answer
        self._asked += 1
        self._asked_length += len(word)
        return list(word)

    def take_shown(self, word):
        """Note that the word was shown."""
        self._longest = max(self._longest, len(word))

    def counts(self):
        """Return how many words were asked, their length together, the proposals, and the longest shown length."""
        return (self._asked, self._asked_length, self._proposed, self._longest)
