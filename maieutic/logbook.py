"""A log that grows, and the first smallest machine for it."""

from maieutic.machines import word_order
from maieutic.smallest import check_log, fits_log, is_only, smallest


class Logbook:
    """Keeps a log and the first smallest machine that fits it."""

    def __init__(self, letters, outs):
        self._letters = letters
        self._outs = outs
        self._told = {}
        self._first = smallest(letters, outs, [])

    def note(self, word, output):
        """Add a pair to the log."""
        if self._told.get(tuple(word)) == output:
            return
        pair = (list(word), output)
        longer = self.log() + [pair]
        check_log(self._letters, self._outs, longer)
        if not fits_log(self._first, [pair]):
            self._first = smallest(self._letters, self._outs, longer)
        self._told[tuple(word)] = output

    def log(self):
        """Return the pairs of the log, in the order of words."""
        return [(list(word), self._told[word]) for word in sorted(self._told, key=word_order)]

    def machine(self):
        """Return the first smallest machine that fits the log."""
        return self._first

    def is_settled(self):
        """Return True if it is the only smallest one."""
        return is_only(self._letters, self._outs, self.log())
