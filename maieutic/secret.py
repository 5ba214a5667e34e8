"""A box that has not made up its mind which word it hides."""

from maieutic.errors import Missing, NotAllowed
from maieutic.least import least
from maieutic.machines import MAX_LETTERS, words_of

MIN_LETTERS = 2
MAX_LENGTH = 5


class Secret:
    """Hides a word of a length, and gives it away as late as possible."""

    def __init__(self, letters, length):
        if not MIN_LETTERS <= letters <= MAX_LETTERS:
            raise NotAllowed(f"a secret box has {MIN_LETTERS} to {MAX_LETTERS} letters")
        if not 1 <= length <= MAX_LENGTH:
            raise NotAllowed(f"the hidden word has 1 to {MAX_LENGTH} letters")
        self._letters = letters
        # A dict keeps the order of the words, and finds them at once.
        self._words = {word: True for word in words_of(letters, length)}

    def reply(self, word):
        """Return 1 if the word is the only possible one, otherwise 0; then it is not possible any more."""
        asked = tuple(word)
        if asked not in self._words:
            return 0
        if len(self._words) == 1:
            return 1
        del self._words[asked]
        return 0

    def left(self):
        """Return the number of possible words."""
        return len(self._words)

    def possible(self):
        """Return the possible words, in the order of words."""
        return [list(word) for word in self._words]

    def pair(self):
        """Return two least machines that fit all replies: for the first and for the last possible word."""
        if len(self._words) == 1:
            raise Missing("only one word is possible")
        words = list(self._words)
        return (_only(self._letters, words[0]), _only(self._letters, words[-1]))


def _only(letters, word):
    """Return the least machine that has the output 1 behind this word alone."""
    lost = len(word) + 1
    moves = []
    for place, right in enumerate(word):
        moves.append(tuple([place + 1 if letter == right else lost for letter in range(letters)]))
    moves.append((lost,) * letters)
    moves.append((lost,) * letters)
    outputs = (0,) * len(word) + (1, 0)
    return least((letters, 2, tuple(moves), outputs))
