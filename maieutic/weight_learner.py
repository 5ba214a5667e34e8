"""The search for a weighted machine: state words whose rows of weights do not depend on each other."""

from maieutic.fractions import ONE, ZERO, solve, sum_of_products
from maieutic.search import Search
from maieutic.weigh import rows_along, whole_sum


class EndSearch:
    """A search for a place that differs and whose next place does not, in steps that grow from the end on.

    The place 0 differs, and the place `length` does not. There are fewer than twice as many looks as
    `length` has binary digits. The place is mostly found near to the end, so that columns are short: long
    words can have very large weights, which make the machines that are drawn from them slow.
    """

    def __init__(self, length):
        self._low = 0
        self._high = length
        self._stride = 1

    def place(self):
        """Return the place to look at, or None if the change is found."""
        if self._high - self._low == 1:
            return None
        return max((self._low + self._high) // 2, self._high - self._stride)

    def tell(self, differs):
        """Tell whether the place to look at differs."""
        if differs:
            self._low = self.place()
        else:
            self._high = self.place()
        self._stride *= 2

    def found(self):
        """Return the place that differs and whose next place does not."""
        return self._low


class WeightLearner(Search):
    """Finds state words and as many columns, so that the table of their weights can be inverted.

    Known weights are looked up in a dict from words to weights; all words in here are tuples.
    """

    def __init__(self, letters, most):
        super().__init__(most)
        self._letters = letters
        self._tails = []
        self._draft = None
        self._wrong = ()
        # The rows of the draft along the wrong word, and the weight that it has in the draft.
        self._way = []
        self._claim = ZERO
        self._search = None
        self._factors = []
        self._common = 1
        self._heads = []

    def learn_from(self, word, weight):
        """Learn that the proposal is wrong for a word with this weight; return False if it is right."""
        self._way = rows_along(self._draft, word)
        row, common = self._way[-1]
        self._claim = whole_sum(row, common, self._draft[3])
        if not self._is_claim_wrong(weight[0], weight[1]):
            return False
        self._proposal = None
        self._wrong = tuple(word)
        # Without state words there is one place more: behind the word, where all weights are 0.
        self._search = EndSearch(len(word) + (0 if self._states else 1))
        self._look()
        return True

    def _is_claim_wrong(self, numerator, denominator):
        """Return True if the draft gives the wrong word another weight than this one."""
        return numerator * self._claim[1] != self._claim[0] * denominator

    def _advance(self, known):
        """Go on with what is known: all needed words are."""
        if self._search is not None:
            self._search.tell(self._differs(known))
            self._look()
        elif len(self._tails) > len(self._states):
            self._states.append(self._new_state(known))
            self._needed = self._cells()
        else:
            self._draft = self._draw(known)
            self._proposal = self._draft

    def _look(self):
        """Need the words of the place to look at; if the change is found, add the column that shows it."""
        place = self._search.place()
        if place is not None:
            self._read_place(place)
            return
        change = self._search.found()
        self._tails.append(self._wrong[change + 1:] if self._states else self._wrong[change:])
        self._search = None
        self._needed = self._cells()

    def _read_place(self, place):
        """Put the state words in the place of the beginning of the wrong word, with their factors."""
        tail = self._wrong[place:]
        row, self._common = self._way[place] if self._states else ([1], 1)
        words = self._states if self._states else [()]
        used = [state for state in range(len(row)) if row[state] != 0]
        self._factors = [row[state] for state in used]
        self._heads = [words[state] + tail for state in used]
        self._needed = self._heads[::-1]

    def _differs(self, known):
        """Return True if the words of the place have together another weight than the wrong word has in the draft."""
        weights = [known[word] for word in self._heads]
        numerator, denominator = whole_sum(self._factors, self._common, weights)
        return self._is_claim_wrong(numerator, denominator)

    def _moves(self):
        """Return the state words with each letter behind them, as pairs of a state and a letter."""
        return [(state, letter) for state in range(len(self._states)) for letter in range(self._letters)]

    def _cells(self):
        """Return all words of the table, the first one last."""
        words = self._states + [self._states[state] + (letter,) for state, letter in self._moves()]
        cells = self._states + [word + tail for word in words for tail in self._tails]
        return cells[::-1]

    def _new_state(self, known):
        """Return the first row that the draft gets wrong in the last column; it depends on no state words."""
        if not self._states:
            return ()
        tail = self._tails[-1]
        weights = [known[word + tail] for word in self._states]
        for state, letter in self._moves():
            row = self._states[state] + (letter,)
            if sum_of_products(self._draft[2][letter][state], weights) != known[row + tail]:
                return row
        return None

    def _draw(self, known):
        """Return the machine with the state words as its rows, right in all cells of the table."""
        table = [[known[word + tail] for tail in self._tails] for word in self._states]
        steps = []
        for letter in range(self._letters):
            rows = [[known[word + (letter,) + tail] for tail in self._tails] for word in self._states]
            steps.append(tuple([tuple(solve(table, row)) for row in rows]))
        size = len(self._states)
        start = ((ONE,) + (ZERO,) * (size - 1))[:size]
        end = tuple([known[word] for word in self._states])
        return (self._letters, start, tuple(steps), end)
