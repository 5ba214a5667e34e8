"""What the searches for weighted machines and for tree machines have in common."""


class Search:
    """A search that needs to know some words or trees, goes on, needs others, and has a proposal at its end.

    What is known is looked up in a dict from words or trees, as tuples, to weights or outputs.
    """

    def __init__(self, most):
        self._most = most
        self._states = []
        # What must be known before the search goes on, the next word or tree last.
        self._needed = []
        self._proposal = None

    def wanted(self, known):
        """Return the next word or tree that must be known; None if there is a proposal or it is full."""
        while self._proposal is None and not self.is_full():
            while self._needed and self._needed[-1] in known:
                self._needed.pop()
            if self._needed:
                return list(self._needed[-1])
            self._advance(known)
        return None

    def is_full(self):
        """Return True if there are more states, or a greater rank, than allowed."""
        return len(self._states) > self._most

    def proposal(self):
        """Return the machine to propose; None if something is wanted first."""
        return self._proposal

    def _advance(self, known):
        """Go on with what is known; each kind of search does that in its own way."""
        raise NotImplementedError("this is not a search of any kind")
