"""The table of outputs from which a machine is drawn."""

from maieutic.errors import Alike, Missing
from maieutic.machines import walk


class Table:
    """State words and columns; the outputs are looked up in a dict from words to outputs."""

    def __init__(self, letters):
        self._letters = letters
        # Dicts keep the order in which words were added, and find them at once.
        self._states = {(): 0}
        self._tails = {(): True}

    def state_words(self):
        """Return the state words, in the order in which they were added."""
        return [list(word) for word in self._states]

    def columns(self):
        """Return the columns, in the order in which they were added."""
        return [list(word) for word in self._tails]

    def wanted(self, known):
        """Return the first word of the table that is not known, or None."""
        for row in self._rows():
            for tail in self._tails:
                if row + tail not in known:
                    return list(row + tail)
        return None

    def gaps(self, known):
        """Return all words that would be wanted one after another, each once."""
        lacking = {}
        for row in self._rows():
            for tail in self._tails:
                if row + tail not in known:
                    lacking[row + tail] = True
        return [list(word) for word in lacking]

    def extend(self, known):
        """Make the first row that is new a state word; return False if there is none."""
        row = self._new_row(known)
        if row is None:
            return False
        self._states[row] = len(self._states)
        return True

    def add_column(self, word):
        """Add a column."""
        if tuple(word) in self._tails:
            raise Alike("the column is there")
        self._tails[tuple(word)] = True

    def mistake(self, outs, known):
        """Return the first state word and column that the table's machine gets wrong, or None."""
        machine = self.machine(outs, known)
        for word, state in self._states.items():
            for tail in self._tails:
                if machine[3][walk(machine, state, tail)] != known[word + tail]:
                    return (list(word), list(tail))
        return None

    def machine(self, outs, known):
        """Return the machine that has the state words as its states."""
        states = {}
        for word, state in self._states.items():
            states.setdefault(self._outputs(word, known), state)
        moves = []
        for word in self._states:
            rows = [self._outputs(word + (letter,), known) for letter in range(self._letters)]
            if not all(row in states for row in rows):
                raise Missing("a row is not that of a state word")
            moves.append(tuple([states[row] for row in rows]))
        outputs = [known[word] for word in self._states]
        return (self._letters, outs, tuple(moves), tuple(outputs))

    def _rows(self):
        """Return the state words, and then the words one letter longer that are no state words."""
        longer = [word + (letter,) for word in self._states for letter in range(self._letters)]
        return list(self._states) + [word for word in longer if word not in self._states]

    def _new_row(self, known):
        """Return the first row whose outputs are not those of a state word, or None."""
        seen = {self._outputs(word, known): True for word in self._states}
        for row in self._rows():
            if self._outputs(row, known) not in seen:
                return row
        return None

    def _outputs(self, row, known):
        return tuple([known[row + tail] for tail in self._tails])
