"""A box that has a machine and shows mistakes, and the play of an asker with a box."""

from maieutic.differ import first_difference
from maieutic.errors import Alike, Wrong
from maieutic.machines import check_machine, output_after

MAX_STEPS = 20000
MAX_LISTED = 60


class Honest:
    """Has a machine; its picks say which of the words behind which a proposal is wrong it shows."""

    def __init__(self, machine, picks):
        check_machine(machine)
        self._machine = machine
        self._picks = list(picks)
        self._turn = 0

    def reply(self, word):
        """Return the output of the machine behind the word."""
        return output_after(self._machine, word)

    def judge(self, proposal):
        """Return None if the proposal answers alike, otherwise a word behind which it is wrong."""
        check_machine(proposal)
        try:
            shortest = len(first_difference(self._machine, proposal))
        except Alike:
            return None
        words = _wrong_words(self._machine, proposal, shortest)
        return list(words[self._next_pick() % len(words)])

    def _next_pick(self):
        """Return the next pick; the first one again after the last one, and 0 if there are none."""
        if not self._picks:
            return 0
        pick = self._picks[self._turn]
        self._turn = (self._turn + 1) % len(self._picks)
        return pick


def _wrong_words(first, second, shortest):
    """Return the first words behind which both differ, of up to two letters more than the shortest one has."""
    leads = _leads(first, second, shortest + 2)
    words = []
    for length in (shortest, shortest + 1, shortest + 2):
        words += _words_of_length(first, second, leads, length)
    return words[:MAX_LISTED]


def _words_of_length(first, second, leads, length):
    """Return the first words of a length behind which both differ."""
    heads = []
    if (0, 0) in leads[length]:
        heads.append(((), (0, 0)))
    for rest in reversed(range(length)):
        longer = []
        for word, pair in heads:
            for letter, after in enumerate(_afters(first, second, pair)):
                if after in leads[rest]:
                    longer.append((word + (letter,), after))
        # Each of these beginnings leads to a word, so that the other ones are too late.
        heads = longer[:MAX_LISTED]
    return [word for word, _ in heads]


def _leads(first, second, longest):
    """Return for each number of letters the pairs of states from which so many letters can lead to a difference."""
    pairs = _met_pairs(first, second)
    leads = [{pair: True for pair in pairs if first[3][pair[0]] != second[3][pair[1]]}]
    for _ in range(longest):
        last = leads[-1]
        leads.append({pair: True for pair in pairs if any(after in last for after in pairs[pair])})
    return leads


def _met_pairs(first, second):
    """Return the pairs of states that words lead to, each with the pairs behind it."""
    afters = {}
    queue = [(0, 0)]
    while queue:
        pair = queue.pop()
        if pair not in afters:
            afters[pair] = _afters(first, second, pair)
            queue.extend(afters[pair])
    return afters


def _afters(first, second, pair):
    """Return the pair of states behind each letter."""
    return list(zip(first[2][pair[0]], second[2][pair[1]]))


def play(asker, box):
    """Let the asker find out the box, and return its last step."""
    step = lead_on(asker, box)
    if step[0] in ("ask", "propose"):
        raise Wrong(f"there is no last step behind {MAX_STEPS} replies")
    return step


def lead_on(asker, box):
    """Reply to the asker up to its last step, at most MAX_STEPS times; return its step then."""
    step = asker.step()
    for _ in range(MAX_STEPS):
        if step[0] not in ("ask", "propose"):
            return step
        _reply(asker, box, step)
        step = asker.step()
    return step


def _reply(asker, box, step):
    """Do what the step says."""
    if step[0] == "ask":
        asker.answer(box.reply(step[1]))
        return
    word = box.judge(step[1])
    if word is None:
        asker.accept()
    else:
        asker.show(word)
