"""Words that tell by their outputs in which state a machine is at their end."""

from maieutic.differ import parting_word
from maieutic.errors import Missing, NotAllowed
from maieutic.least import least
from maieutic.machines import check_word, outputs_from, walk


def homing_word(machine):
    """Return a word whose outputs tell in which state the least machine is behind it."""
    small = least(machine)
    word = []
    pair = _open_pair(small, word)
    # Each round tells more beginnings from each other, by at most n - 2 letters. The empty
    # word tells two kinds of them already, so there are at most n - 2 rounds.
    while pair is not None:
        word = word + parting_word(small, pair[0], pair[1])
        pair = _open_pair(small, word)
    return word


def _open_pair(small, word):
    """Return two states behind the word that its outputs do not tell from each other, or None."""
    ends = {}
    for state in range(len(small[2])):
        end = walk(small, state, word)
        other = ends.setdefault(tuple(outputs_from(small, state, word)), end)
        if other != end:
            return (other, end)
    return None


def state_at_end(machine, word, outputs):
    """Return the state behind the word in which the least machine is if the outputs along it were these."""
    check_word(machine, word)
    small = least(machine)
    ends = {}
    for state in range(len(small[2])):
        if outputs_from(small, state, word) == outputs:
            ends[walk(small, state, word)] = True
    if len(ends) > 1:
        raise NotAllowed("the outputs do not tell the state behind the word")
    if not ends:
        raise Missing("from no state there are these outputs")
    return list(ends)[0]
