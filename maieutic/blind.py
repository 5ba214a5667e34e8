"""What a list of words cannot see."""

from maieutic.errors import Missing
from maieutic.least import least
from maieutic.machines import check_word


def unused_moves(machine, words):
    """Return the pairs of a state and a letter whose moves in the least machine the words do not use."""
    small = least(machine)
    used = {}
    for word in words:
        check_word(machine, word)
        state = 0
        for letter in word:
            used[(state, letter)] = True
            state = small[2][state][letter]
    moves = [(state, letter) for state in range(len(small[2])) for letter in range(small[0])]
    return [move for move in moves if move not in used]


def blind_machine(machine, words):
    """Return a machine that does not answer alike, but has the same outputs along each of the words."""
    unused = unused_moves(machine, words)
    small = least(machine)
    if len(small[2]) == 1 or not unused:
        raise Missing("the words may be a suite")
    return _with_other_move(small, unused[0])


def _with_other_move(small, move):
    """Return the machine with a move that leads to another state."""
    state, letter = move
    row = list(small[2][state])
    # If this machine answered alike, its states would answer like those of the least one, no two
    # of them alike, and the state 0 like the state 0. So a move that led elsewhere must not lead
    # to 0, and a move that led to 0 must lead there. (A word leads to the state without the move.)
    row[letter] = 1 if row[letter] == 0 else 0
    moves = small[2][:state] + (tuple(row),) + small[2][state + 1:]
    return (small[0], small[1], moves, small[3])
