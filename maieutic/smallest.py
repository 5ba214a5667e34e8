"""The smallest machines that fit a log."""

from maieutic.errors import Broken, Missing, NotAllowed
from maieutic.machines import MAX_OUTS, fits, is_word, output_after

MAX_LOG_LETTERS = 2
MAX_LOG = 30
MAX_SEEN = 10
MAX_SMALL = 4


def check_log(letters, outs, log):
    """Raise NotAllowed if a number, a word or an output is out of range, and Broken if the log contradicts itself."""
    if not 1 <= letters <= MAX_LOG_LETTERS:
        raise NotAllowed(f"letters are from 1 to {MAX_LOG_LETTERS}")
    if not 1 <= outs <= MAX_OUTS:
        raise NotAllowed(f"outs are from 1 to {MAX_OUTS}")
    if len(log) > MAX_LOG:
        raise NotAllowed(f"a log has at most {MAX_LOG} pairs")
    for word, output in log:
        if not is_word(word, letters, MAX_SEEN) or not 0 <= output < outs:
            raise NotAllowed("a pair of the log has a word or an output that is not allowed")
    told = {}
    for word, output in log:
        if told.setdefault(tuple(word), output) != output:
            raise Broken("a word of the log has two outputs")


def fits_log(machine, log):
    """Return True if the machine has the output that the log says behind each of its words."""
    return all(fits(machine, word) and output_after(machine, word) == output for word, output in log)


def smallest(letters, outs, log):
    """Return the first one of the machines with the fewest states that fit the log."""
    check_log(letters, outs, log)
    rows = min([_state_rows(letters, part) for part in _smallest_parts(letters, log)])
    return (letters, outs, tuple([row[1:] for row in rows]), tuple([row[0] for row in rows]))


def is_only(letters, outs, log):
    """Return True if only one machine in order with the fewest states fits the log."""
    check_log(letters, outs, log)
    parts = _smallest_parts(letters, log)
    if len(parts) > 1:
        return False
    moves, claims = parts[0]
    return outs == 1 or all((state, ()) in claims for state in range(len(moves) // letters))


# A part of a machine is a pair. It has the moves so far, as a tuple of next states, state by
# state and letter by letter; and the claims of the log, moved on as far as these moves go: a
# dict from pairs of a state and the rest of a word to the output behind this rest.


def _smallest_parts(letters, log):
    """Return the moves, each with the claims at their ends, of the smallest machines in order."""
    claims = {(0, tuple(word)): output for word, output in log}
    for states in range(1, MAX_SMALL + 1):
        parts = [((), claims)]
        for _ in range(states * letters):
            parts = [longer for part in parts for longer in _longer_parts(letters, states, part)]
        if parts:
            return parts
    raise Missing(f"no machine with at most {MAX_SMALL} states fits the log")


def _longer_parts(letters, states, part):
    """Return the parts with one move more that are in order and do not contradict the log."""
    moves, claims = part
    # The state whose move comes next is met already: otherwise those before it would be a
    # machine with fewer states that fits, and these were looked for first.
    met = max(moves, default=0) + 1
    longer = []
    for after in range(min(met + 1, states)):
        further = moves + (after,)
        left = _move_on(letters, further, claims)
        if left is not None:
            longer.append((further, left))
    return longer


def _move_on(letters, moves, claims):
    """Return the claims, moved on as far as the moves go, or None if two of them contradict each other."""
    further = {}
    for (state, rest), output in claims.items():
        place = 0
        at = state
        while place < len(rest) and at * letters + rest[place] < len(moves):
            at = moves[at * letters + rest[place]]
            place += 1
        if further.setdefault((at, rest[place:]), output) != output:
            return None
    return further


def _state_rows(letters, part):
    """Return for each state its output and its next states; an output that is not claimed is 0."""
    moves, claims = part
    rows = []
    for state in range(len(moves) // letters):
        rows.append((claims.get((state, ()), 0),) + moves[state * letters:(state + 1) * letters])
    return rows
