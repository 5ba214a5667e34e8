"""Lists of words that tell a machine from all other ones up to a size."""

from maieutic.apart import telling_words, ways_to
from maieutic.differ import check_kin
from maieutic.errors import NotAllowed
from maieutic.least import least
from maieutic.machines import check_word, outputs_from, word_order, words_of

MAX_EXTRA = 29
MAX_LIST = 4000


def are_told(words, first, second):
    """Return True if the outputs of both machines differ along some of the words."""
    check_kin(first, second)
    for word in words:
        check_word(first, word)
    return any(outputs_from(first, 0, word) != outputs_from(second, 0, word) for word in words)


def suite_words(machine, extra):
    """Return words that tell the machine from all that do not answer alike and have up to extra states more."""
    small = least(machine)
    if not 0 <= extra <= MAX_EXTRA:
        raise NotAllowed(f"there are 0 to {MAX_EXTRA} extra states")
    if most_words(small[0], len(small[2]), extra) > MAX_LIST:
        raise NotAllowed(f"a suite may have more than {MAX_LIST} words")
    middles = [middle for length in range(extra + 1) for middle in words_of(small[0], length)]
    tails = [tuple(word) for word in telling_words(small)]
    found = {}
    # A machine with so many states more that answers like this one along all heads, each with
    # a middle and all tails, has a state of this one for each of its own, and the same moves.
    for head in _heads(small):
        for middle in middles:
            for tail in tails:
                found[head + middle + tail] = True
    return [list(word) for word in sorted(found, key=word_order)]


def most_words(letters, states, extra):
    """Return how many words a suite may have for a least machine with so many states."""
    middles = 0
    longest = 1
    for _ in range(extra + 1):
        middles += longest
        longest *= letters
    return (states * letters + 1) * middles * max(1, states - 1)


def _heads(small):
    """Return the empty word, and the ways to all states with each letter behind them."""
    longer = [tuple(way) + (letter,) for way in ways_to(small) for letter in range(small[0])]
    return [()] + longer
