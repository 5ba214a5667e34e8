"""Words behind which two machines, or two states of a machine, differ."""

from maieutic.errors import Alike, NotAllowed


def are_alike(first, second):
    """Return True if both machines have the same output behind each word."""
    check_kin(first, second)
    return _first_parting(first, second, (0, 0)) is None


def first_difference(first, second):
    """Return the first word behind which the outputs of both machines differ."""
    check_kin(first, second)
    word = _first_parting(first, second, (0, 0))
    if word is None:
        raise Alike("the machines answer alike")
    return word


def parting_word(machine, state, other):
    """Return the first word behind which the outputs differ from the one or the other state."""
    count = len(machine[2])
    if not 0 <= state < count or not 0 <= other < count:
        raise NotAllowed(f"the states are from 0 to {count - 1}")
    word = _first_parting(machine, machine, (state, other))
    if word is None:
        raise Alike("the outputs are the same from both states")
    return word


def check_kin(first, second):
    """Raise NotAllowed if the machines have other letters or outs."""
    if first[0] != second[0] or first[1] != second[1]:
        raise NotAllowed("the machines have other letters or outs")


def _first_parting(first, second, start):
    """Return the first word that leads from a pair of states to different outputs, or None."""
    words = {start: []}
    queue = [start]
    place = 0
    # Pairs are met in the order of their first words, so the first pair with
    # different outputs has the first of all words.
    while place < len(queue):
        pair = queue[place]
        place += 1
        if first[3][pair[0]] != second[3][pair[1]]:
            return words[pair]
        for letter in range(first[0]):
            after = (first[2][pair[0]][letter], second[2][pair[1]][letter])
            if after not in words:
                words[after] = words[pair] + [letter]
                queue.append(after)
    return None
