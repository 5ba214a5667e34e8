"""What the askers have in common: the search for states, and the talk with the caller."""

from maieutic.errors import NotAllowed
from maieutic.halving import Halving
from maieutic.least import least
from maieutic.machines import MAX_LETTERS, MAX_OUTS, MAX_SHOWN, MAX_STATES
from maieutic.machines import is_word, output_after, walk, word_order
from maieutic.notation import word_digits
from maieutic.table import Table
from maieutic.talk import Talk


def check_numbers(letters, outs, most):
    """Raise NotAllowed if one of the numbers of an asker is out of range."""
    if not 1 <= letters <= MAX_LETTERS:
        raise NotAllowed(f"letters are from 1 to {MAX_LETTERS}")
    if not 1 <= outs <= MAX_OUTS:
        raise NotAllowed(f"outs are from 1 to {MAX_OUTS}")
    if not 1 <= most <= MAX_STATES:
        raise NotAllowed(f"the most states are from 1 to {MAX_STATES}")


def is_output(output, outs):
    """Return True if this is an integer from 0 to outs - 1."""
    return isinstance(output, int) and not isinstance(output, bool) and 0 <= output < outs


class Learner:
    """The search for the states of a machine; outputs are looked up in a dict from words to outputs.

    The draft is the table's machine: its states have the numbers of the state words.
    """

    def __init__(self, letters, outs, most):
        self._table = Table(letters)
        self._outs = outs
        self._most = most
        self._names = self._table.state_words()
        self._lacking = None
        self._draft = None
        self._least = None
        self._halving = None
        self._wrong = []
        self._start = 0
        self._claim = 0

    def wanted(self, known):
        """Return the next word that must be known; None if there is a proposal or it is full."""
        while self._least is None and not self.is_full():
            if self._halving is None:
                word = self._fill(known)
            else:
                word = self._look(known)
            if word is not None:
                return word
        return None

    def is_full(self):
        """Return True if there are more states than allowed."""
        return len(self._names) > self._most

    def proposal(self):
        """Return the machine to propose, which is a least one; None if words are wanted first."""
        return self._least

    def learn_from(self, word, output):
        """Learn that the proposal is wrong behind a word with this output; return False if it is right."""
        if output == output_after(self._least, word):
            return False
        self.see_wrong(word)
        return True

    def see_wrong(self, word):
        """Learn that the proposal is wrong behind a word that is known."""
        self._least = None
        self._halve(0, word)

    def _fill(self, known):
        """Return a word that the table lacks; if there is none, bring the table further."""
        if self._lacking is None:
            self._lacking = self._table.gaps(known)[::-1]
        while self._lacking and tuple(self._lacking[-1]) in known:
            self._lacking.pop()
        if self._lacking:
            return self._lacking[-1]
        self._lacking = None
        if self._table.extend(known):
            self._names = self._table.state_words()
        else:
            self._draw(known)
        return None

    def _draw(self, known):
        """Draw the table's machine; propose it if it has no mistake in the table itself."""
        self._draft = self._table.machine(self._outs, known)
        mistake = self._table.mistake(self._outs, known)
        if mistake is None:
            # Each row is then the row of its own state, so no two states are alike.
            self._least = least(self._draft)
        else:
            self._halve(self._names.index(mistake[0]), mistake[1])

    def _halve(self, start, word):
        """Begin to look where the draft goes wrong on a word that begins in a state."""
        self._start = start
        self._wrong = list(word)
        self._claim = self._draft[3][walk(self._draft, start, word)]
        self._halving = Halving(len(word))

    def _look(self, known):
        """Return the word of the place to look at; None if it is known or the change is found."""
        place = self._halving.place()
        if place is None:
            # Two rows that were alike differ behind this column: there will be a new state word.
            self._table.add_column(self._wrong[self._halving.found() + 1:])
            self._halving = None
            return None
        state = walk(self._draft, self._start, self._wrong[:place])
        word = self._names[state] + self._wrong[place:]
        if tuple(word) not in known:
            return word
        self._halving.tell(known[tuple(word)] != self._claim)
        return None


class WordTalk(Talk):
    """A talk about words and outputs, with all replies as they stand in an image."""

    def __init__(self, letters, outs, told):
        super().__init__(told)
        self._letters = letters
        self._outs = outs
        self._replies = []

    def hear_answer(self, output):
        """Take an answer; return the word that was asked, or None if the answer is no output."""
        self.check_fit("ask")
        if not is_output(output, self._outs):
            self._replies.append("!output")
            self.end(("broken", "output"))
            return None
        self._replies.append(f"={output}")
        return self.take_answer(output)

    def hear_accept(self, found):
        """Take an acceptance of the proposal; what was found is told from then on."""
        self.check_fit("propose")
        self._replies.append("+")
        self.end(("done", found))

    def hear_word(self, word):
        """Take a shown word; return False if it is not allowed."""
        self.check_fit("propose")
        if not is_word(word, self._letters, MAX_SHOWN):
            self._replies.append("!word")
            self.end(("broken", "word"))
            return False
        self._replies.append("-" + word_digits(word))
        self.take_shown(word)
        return True

    def pairs(self):
        """Return the pairs of known words and their outputs, in the order of words."""
        return [(list(word), self.known[word]) for word in sorted(self.known, key=word_order)]

    def replies_text(self):
        """Return the line and the replies behind it, as they stand in an image."""
        return " ".join(["|"] + self._replies)
