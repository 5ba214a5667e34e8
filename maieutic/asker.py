"""The asker, which finds out the machine in a box."""

from maieutic.errors import Broken, NotAllowed
from maieutic.lead import Lead
from maieutic.learner import Learner, WordTalk, check_numbers, is_output
from maieutic.machines import MAX_WORD, is_word, word_order
from maieutic.notation import word_digits

MAX_KNOWN = 400


class Asker:
    """Finds out a hidden machine in steps, which the caller carries out."""

    def __init__(self, letters, outs, most, known):
        check_numbers(letters, outs, most)
        told = _read_known(letters, outs, known)
        self._head = _head_text((letters, outs, most), told)
        self._talk = WordTalk(letters, outs, told)
        self._learner = Learner(letters, outs, most)
        self._lead = Lead(self._talk, self._learner)
        self._lead.go_on()

    def step(self):
        """Return the present step."""
        return self._talk.present_step()

    def answer(self, output):
        """Take the output behind the asked word."""
        if self._talk.hear_answer(output) is not None:
            self._lead.go_on()

    def accept(self):
        """Take it that the proposed machine is right."""
        self._talk.hear_accept(self._learner.proposal())

    def show(self, word):
        """Take a word behind which the proposed machine is wrong."""
        if self._talk.hear_word(word):
            self._lead.go_on_from(word)

    def report(self):
        """Return the counts of asked words, their letters and proposals, and the longest shown length."""
        return self._talk.counts()

    def journal(self):
        """Return the known and the answered words with their outputs, in the order of words."""
        return self._talk.pairs()

    def image(self):
        """Return the text from which this asker can be begun anew."""
        return f"{self._head} {self._talk.replies_text()}"


def _read_known(letters, outs, known):
    """Return the known pairs as a dict from words, as tuples, to outputs."""
    if len(known) > MAX_KNOWN:
        raise NotAllowed(f"more than {MAX_KNOWN} pairs are known")
    for word, output in known:
        if not is_word(word, letters, MAX_WORD) or not is_output(output, outs):
            raise NotAllowed("a known pair has a word or an output that is not allowed")
    told = {}
    for word, output in known:
        if told.setdefault(tuple(word), output) != output:
            raise Broken("a word is known with two outputs")
    return told


def _head_text(numbers, told):
    """Return the numbers and the known pairs as they stand in an image."""
    pairs = [f"{word_digits(word)}={told[word]}" for word in sorted(told, key=word_order)]
    return " ".join([str(number) for number in numbers] + pairs)
