"""Finding a change in a sequence by halving."""

from maieutic.errors import NotAllowed, Wrong


class Halving:
    """A search for a place that differs and whose next place does not."""

    def __init__(self, length):
        if length < 1:
            raise NotAllowed("there is no place behind the place 0")
        self._low = 0
        self._high = length

    def place(self):
        """Return the place to look at, or None if the change is found."""
        if self._high - self._low == 1:
            return None
        return (self._low + self._high) // 2

    def tell(self, differs):
        """Tell whether the place to look at differs."""
        middle = self.place()
        if middle is None:
            raise Wrong("the change is found already")
        if differs:
            self._low = middle
        else:
            self._high = middle

    def found(self):
        """Return the place that differs and whose next place does not."""
        if self.place() is not None:
            raise Wrong("the change is not found yet")
        return self._low
