"""The states of a machine that cannot be told from each other, and its least machine."""


def classes(machine):
    """Return for each state the least one from which all outputs are the same."""
    moves = machine[2]
    same = first_places(machine[3])
    while True:
        marks = [(same[state], tuple([same[after] for after in row])) for state, row in enumerate(moves)]
        finer = first_places(marks)
        if finer == same:
            return same
        same = finer


def first_places(marks):
    """Return for each mark the first index at which there is an equal one."""
    first = {}
    for place, mark in enumerate(marks):
        first.setdefault(mark, place)
    return [first[mark] for mark in marks]


def least(machine):
    """Return the machine with the fewest states that answers alike, its states in order."""
    letters, outs, moves, outputs = machine
    same = classes(machine)
    order = _met_states(moves, same)
    numbers = {state: number for number, state in enumerate(order)}
    rows = [tuple([numbers[same[after]] for after in moves[state]]) for state in order]
    return (letters, outs, tuple(rows), tuple([outputs[state] for state in order]))


def _met_states(moves, same):
    """Return the states that are reached, one of each class, in the order in which they are met."""
    order = [same[0]]
    met = {same[0]: True}
    place = 0
    while place < len(order):
        state = order[place]
        place += 1
        for after in moves[state]:
            if same[after] not in met:
                met[same[after]] = True
                order.append(same[after])
    return order
