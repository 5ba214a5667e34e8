"""Machines, the words that they read, and the order of words."""

from maieutic.errors import NotAllowed

MAX_LETTERS = 4
MAX_OUTS = 6
MAX_STATES = 30
MAX_WORD = 400
MAX_SHOWN = 300


def check_machine(machine):
    """Raise NotAllowed if the tuple is not a machine."""
    letters, outs, moves, outputs = machine
    if not 1 <= letters <= MAX_LETTERS:
        raise NotAllowed(f"a machine has 1 to {MAX_LETTERS} letters, not {letters}")
    if not 1 <= outs <= MAX_OUTS:
        raise NotAllowed(f"a machine has 1 to {MAX_OUTS} outs, not {outs}")
    if not 1 <= len(moves) <= MAX_STATES:
        raise NotAllowed(f"a machine has 1 to {MAX_STATES} states, not {len(moves)}")
    if len(outputs) != len(moves):
        raise NotAllowed("a machine has one output for each state")
    for row in moves:
        if len(row) != letters or not are_below(row, len(moves)):
            raise NotAllowed("a state has one next state for each letter")
    if not are_below(outputs, outs):
        raise NotAllowed(f"an output is from 0 to {outs - 1}")


def are_below(numbers, limit):
    """Return True if all numbers are from 0 to limit - 1."""
    return all(0 <= number < limit for number in numbers)


def is_word(word, letters, longest):
    """Return True if the word has only such letters, and at most longest ones."""
    return len(word) <= longest and are_below(word, letters)


def fits(machine, word):
    """Return True if the word fits the machine."""
    return is_word(word, machine[0], MAX_WORD)


def check_word(machine, word):
    """Raise NotAllowed if the word does not fit the machine."""
    if not fits(machine, word):
        raise NotAllowed("the word does not fit the machine")


def walk(machine, state, word):
    """Return the state to which a word leads from a state; the word is not checked."""
    moves = machine[2]
    for letter in word:
        state = moves[state][letter]
    return state


def state_after(machine, word):
    """Return the state behind the word."""
    check_word(machine, word)
    return walk(machine, 0, word)


def output_after(machine, word):
    """Return the output behind the word."""
    return machine[3][state_after(machine, word)]


def outputs_along(machine, word):
    """Return the outputs behind all beginnings of the word, the shortest one first."""
    check_word(machine, word)
    return outputs_from(machine, 0, word)


def outputs_from(machine, state, word):
    """Return the outputs along a word that begins in a state; the word is not checked."""
    along = [machine[3][state]]
    for letter in word:
        state = machine[2][state][letter]
        along.append(machine[3][state])
    return along


def words_of(letters, length):
    """Return all words of a length, as tuples, in the order of words."""
    words = [()]
    for _ in range(length):
        words = [word + (letter,) for word in words for letter in range(letters)]
    return words


def word_order(word):
    """Return a key by which words are sorted in the order of words."""
    return (len(word), word)


def comes_before(first, second):
    """Return True if the first word comes before the second one."""
    return word_order(first) < word_order(second)
