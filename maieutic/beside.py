"""Two machines side by side."""

from maieutic.errors import NotAllowed
from maieutic.least import least
from maieutic.machines import MAX_LETTERS, MAX_OUTS, MAX_STATES


def beside(first, second):
    """Return the least machine that works like both machines side by side."""
    if first[0] + second[0] > MAX_LETTERS:
        raise NotAllowed(f"both machines together have more than {MAX_LETTERS} letters")
    if first[1] * second[1] > MAX_OUTS:
        raise NotAllowed(f"the product of the outs is more than {MAX_OUTS}")
    one = least(first)
    two = least(second)
    # Side by side, least machines reach each pair of their states, and a word of
    # one part tells two pairs apart: the least machine has all these pairs.
    if len(one[2]) * len(two[2]) > MAX_STATES:
        raise NotAllowed(f"the least machine side by side has more than {MAX_STATES} states")
    return least(_all_pairs(one, two))


def _all_pairs(first, second):
    """Return the machine side by side that has a state for each pair of states."""
    width = len(second[2])
    moves = []
    outputs = []
    for state, row in enumerate(first[2]):
        for other, other_row in enumerate(second[2]):
            own = [after * width + other for after in row]
            others = [state * width + after for after in other_row]
            moves.append(tuple(own + others))
            outputs.append(first[3][state] * second[1] + second[3][other])
    return (first[0] + second[0], first[1] * second[1], tuple(moves), tuple(outputs))


def own_parts(word, letters):
    """Return the word's letters of the first part, and those of the second part as it names them."""
    own = [letter for letter in word if letter < letters]
    others = [letter - letters for letter in word if letter >= letters]
    return (own, others)
