"""The asker for two machines side by side."""

from maieutic.beside import beside, own_parts
from maieutic.errors import NotAllowed
from maieutic.learner import Learner, WordTalk, check_numbers
from maieutic.machines import MAX_LETTERS, MAX_OUTS, output_after


class PartsAsker:
    """Finds out a secret that answers like two machines side by side, each part on its own."""

    def __init__(self, letters, outs, most):
        _check_parts(letters, outs, most)
        self._first_letters = letters[0]
        self._second_outs = outs[1]
        self._head = " ".join([str(number) for number in letters + outs + (most,)])
        self._talk = WordTalk(letters[0] + letters[1], outs[0] * outs[1], {})
        self._learners = (Learner(letters[0], outs[0], most), Learner(letters[1], outs[1], most))
        self._told = ({}, {})
        self._shown = None
        self._go_on()

    def step(self):
        """Return the present step."""
        return self._talk.present_step()

    def answer(self, output):
        """Take the output behind the asked word."""
        word = self._talk.hear_answer(output)
        if word is not None and self._tell_parts(word, output):
            self._go_on()

    def accept(self):
        """Take it that the proposed machine is right."""
        self._talk.hear_accept((self._learners[0].proposal(), self._learners[1].proposal()))

    def show(self, word):
        """Take a word behind which the proposed machine is wrong."""
        if self._talk.hear_word(word):
            self._shown = list(word)
            self._go_on()

    def report(self):
        """Return the counts of asked words, their letters and proposals, and the longest shown length."""
        return self._talk.counts()

    def journal(self):
        """Return the answered words with their outputs, in the order of words."""
        return self._talk.pairs()

    def image(self):
        """Return the text from which this asker can be begun anew."""
        return f"{self._head} {self._talk.replies_text()}"

    def _go_on(self):
        """Choose the next step."""
        if self._shown is not None and not self._judge():
            return
        for part in (0, 1):
            learner = self._learners[part]
            word = learner.wanted(self._told[part])
            if word is not None:
                self._talk.ask(self._whole_word(part, word))
                return
            if learner.is_full():
                self._talk.end(("full",))
                return
        self._propose()

    def _propose(self):
        """Propose both machines side by side, or end if that is not allowed."""
        try:
            machine = beside(self._learners[0].proposal(), self._learners[1].proposal())
        except NotAllowed:
            # The parts of the secret have at least as many states as these machines.
            self._talk.end(("full",))
            return
        self._talk.propose(machine)

    def _tell_parts(self, word, output):
        """Tell an answer to the parts whose own word it is; return False if it breaks the asker."""
        own = own_parts(word, self._first_letters)
        outputs = divmod(output, self._second_outs)
        alone = [part for part in (0, 1) if not own[1 - part]]
        for part in alone:
            self._told[part][tuple(own[part])] = outputs[part]
        # The empty word, an own word of both parts, is asked before all others.
        for part in alone:
            if outputs[1 - part] != self._told[1 - part][()]:
                self._talk.end(("broken", "parts"))
                return False
        return True

    def _judge(self):
        """Hold the shown word against the proposal; return False if that makes the next step."""
        output = self._talk.known.get(tuple(self._shown))
        if output is None:
            self._talk.ask(self._shown)
            return False
        own = own_parts(self._shown, self._first_letters)
        claims = [output_after(self._learners[part].proposal(), own[part]) for part in (0, 1)]
        if output == claims[0] * self._second_outs + claims[1]:
            self._talk.end(("broken", "shown"))
            return False
        return self._blame(own, claims)

    def _blame(self, own, claims):
        """Find the part that is wrong behind its own word; return False if that makes the next step."""
        for part in (0, 1):
            output = self._told[part].get(tuple(own[part]))
            if output is None:
                self._talk.ask(self._whole_word(part, own[part]))
                return False
            if output != claims[part]:
                self._shown = None
                self._learners[part].see_wrong(own[part])
                return True
        self._talk.end(("broken", "parts"))
        return False

    def _whole_word(self, part, word):
        """Return the word of a part with the letters that it has side by side."""
        if part == 0:
            return word
        return [letter + self._first_letters for letter in word]


def _check_parts(letters, outs, most):
    """Raise NotAllowed if a number is out of range, or both parts together are too large."""
    for part in (0, 1):
        check_numbers(letters[part], outs[part], most)
    if letters[0] + letters[1] > MAX_LETTERS:
        raise NotAllowed(f"both parts together have more than {MAX_LETTERS} letters")
    if outs[0] * outs[1] > MAX_OUTS:
        raise NotAllowed(f"the product of the outs is more than {MAX_OUTS}")
