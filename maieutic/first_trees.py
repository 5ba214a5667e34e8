"""The first trees of states, least tree machines, and the trees by which tree machines differ."""

from maieutic.errors import Alike, Missing, NotAllowed
from maieutic.least import first_places
from maieutic.trees import MAX_NODES, entry_of, kids_of, tree_order


def first_trees(machine):
    """Return for each state its first tree, or None if there is none that is not too large."""
    return _trees_up_to(machine, MAX_NODES)


def _trees_up_to(machine, most):
    """Return for each state its first tree, or None if there is none with at most so many symbols."""
    ranks, _, rules, outputs = machine
    firsts = {}
    offers = {}
    for symbol, rank in enumerate(ranks):
        if rank == 0:
            offers.setdefault(rules[symbol][0], [symbol])
    # The kids in a first tree are first trees themselves, and come before it. So the first one
    # of all trees that can be made of the first trees so far is the first tree of its state.
    while offers:
        state = min(offers, key=lambda one: tree_order(offers[one]))
        firsts[state] = offers.pop(state)
        for after, tree in _trees_over(machine, firsts, state):
            if len(tree) <= most:
                other = offers.setdefault(after, tree)
                if tree_order(tree) < tree_order(other):
                    offers[after] = tree
    return [firsts.get(state) for state in range(len(outputs))]


def _trees_over(machine, firsts, state):
    """Return the trees of one symbol over first trees, one of them that of the state, for states without one."""
    ranks, _, rules, outputs = machine
    grown = []
    for symbol, rank in enumerate(ranks):
        for kids in kids_of(rank, list(firsts)):
            after = rules[symbol][entry_of(kids, len(outputs))]
            if state in kids and after not in firsts:
                tree = [symbol]
                for kid in kids:
                    tree = tree + firsts[kid]
                grown.append((after, tree))
    return grown


def least_tree_machine(machine):
    """Return the tree machine with the fewest states that answers alike, its states in the order of trees."""
    met = _met_states(machine)
    numbers = {state: number for number, state in enumerate(met)}
    whole = _kept(machine, met, numbers)
    same = _classes(whole)
    kept = [state for state, first in enumerate(same) if state == first]
    numbers = {state: kept.index(first) for state, first in enumerate(same)}
    small = _kept(whole, kept, numbers)
    # With each state that has a first tree, the next first tree has at most twice as many symbols, and one.
    firsts = _trees_up_to(small, 1 << len(kept))
    order = sorted(range(len(firsts)), key=lambda state: tree_order(firsts[state]))
    numbers = {state: number for number, state in enumerate(order)}
    return _kept(small, order, numbers)


def tree_difference(first, second):
    """Return the first tree for which the outputs of both machines differ."""
    if first[0] != second[0] or first[1] != second[1]:
        raise NotAllowed("the machines have other ranks or outs")
    pairs = _paired(first, second)
    if not any(pairs[3][state] for state in _met_states(pairs)):
        raise Alike("the machines answer alike")
    trees = [tree for differ, tree in zip(pairs[3], first_trees(pairs)) if differ and tree is not None]
    if not trees:
        raise Missing(f"the first difference has more than {MAX_NODES} symbols")
    return min(trees, key=tree_order)


def _met_states(machine):
    """Return the states of all trees, of any size, in ascending order."""
    ranks, _, rules, outputs = machine
    met = []
    grown = True
    while grown:
        found = {state: True for state in met}
        for rank, rule in zip(ranks, rules):
            for kids in kids_of(rank, met):
                found[rule[entry_of(kids, len(outputs))]] = True
        grown = len(found) > len(met)
        met = sorted(found)
    return met


def _kept(machine, states, numbers):
    """Return the machine that has these states alone, in this order, with the numbers of all states."""
    ranks, outs, rules, outputs = machine
    kept = []
    for rank, rule in zip(ranks, rules):
        kept.append(tuple([numbers[rule[entry_of(kids, len(outputs))]] for kids in kids_of(rank, states)]))
    return (ranks, outs, tuple(kept), tuple([outputs[state] for state in states]))


def _classes(machine):
    """Return for each state the least one that can be put in its place in all trees."""
    same = first_places(machine[3])
    while True:
        marks = [(same[state], _afters(machine, same, state)) for state in range(len(same))]
        finer = first_places(marks)
        if finer == same:
            return same
        same = finer


def _afters(machine, same, state):
    """Return the classes of the states that follow where the state is one of the kids, beside all others."""
    ranks, _, rules, outputs = machine
    count = len(outputs)
    afters = []
    for rank, rule in zip(ranks, rules):
        for other in kids_of(rank - 1, list(range(count))) if rank else []:
            afters.append(same[rule[entry_of((state,) + other, count)]])
            afters.append(same[rule[entry_of(other + (state,), count)]])
    return tuple(afters)


def _paired(first, second):
    """Return the tree machine, of any size, of the pairs of states; its output is 1 where both outputs differ."""
    width = len(second[3])
    pairs = [(one, two) for one in range(len(first[3])) for two in range(width)]
    rules = []
    for symbol, rank in enumerate(first[0]):
        rule = []
        for kids in kids_of(rank, pairs):
            one = first[2][symbol][entry_of([pair[0] for pair in kids], len(first[3]))]
            two = second[2][symbol][entry_of([pair[1] for pair in kids], width)]
            rule.append(one * width + two)
        rules.append(tuple(rule))
    outputs = [1 if first[3][one] != second[3][two] else 0 for one, two in pairs]
    return (first[0], 2, tuple(rules), tuple(outputs))
