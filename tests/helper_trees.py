"""Tree machines for tests, and plain ways to read and to search trees."""

import functools
import itertools

VALUES = ((0, 0, 1, 2), 2, ((0,), (1,), (1, 0), (0, 0, 0, 1)), (0, 1))

# Ranks of all kinds: with rank 0 alone, with rank 1, with rank 2, with both.
ALL_RANKS = ((0,), (0, 0, 0, 0, 0), (0, 1), (1, 0, 0, 1), (1, 1, 1, 1, 0), (0, 2), (2, 0, 0), (0, 1, 2), (2, 2, 0, 1, 0),
             (0, 2, 2, 2, 2))


def random_tree_machine(numbers, ranks, outs, states):
    rules = tuple(tuple(numbers.randrange(states) for _ in range(states ** rank)) for rank in ranks)
    return (ranks, outs, rules, tuple(numbers.randrange(outs) for _ in range(states)))


def all_tree_machines(ranks, outs, states):
    rules = [list(itertools.product(range(states), repeat=states ** rank)) for rank in ranks]
    for chosen in itertools.product(*rules):
        for outputs in itertools.product(range(outs), repeat=states):
            yield (ranks, outs, tuple(chosen), outputs)


def plain_tree_state(machine, tree):
    """The state of a tree, by [7.3] word for word."""
    state, rest = state_and_rest(machine, list(tree))
    assert rest == []
    return state


def state_and_rest(machine, symbols):
    """The state of the first tree of a list, and what stands behind that tree."""
    ranks, _, rules, outputs = machine
    symbol, rest = symbols[0], symbols[1:]
    if ranks[symbol] == 0:
        return rules[symbol][0], rest
    first, rest = state_and_rest(machine, rest)
    if ranks[symbol] == 1:
        return rules[symbol][first], rest
    second, rest = state_and_rest(machine, rest)
    return rules[symbol][first * len(outputs) + second], rest


def plain_tree_output(machine, tree):
    return machine[3][plain_tree_state(machine, tree)]


@functools.lru_cache(maxsize=None)
def trees_of_size(ranks, size):
    """All trees with so many symbols, in the order of trees."""
    found = []
    for symbol, rank in enumerate(ranks):
        if rank == 0 and size == 1:
            found.append((symbol,))
        if rank == 1 and size > 1:
            found += [(symbol,) + kid for kid in trees_of_size(ranks, size - 1)]
        if rank == 2:
            for left in range(1, size - 1):
                for one in trees_of_size(ranks, left):
                    found += [(symbol,) + one + two for two in trees_of_size(ranks, size - 1 - left)]
    return sorted(found)


def trees_up_to(ranks, size):
    for one in range(1, size + 1):
        yield from trees_of_size(ranks, one)


def random_tree(numbers, ranks, most):
    """A tree with at most so many symbols, and not many fewer if the ranks allow that."""
    leaves = [symbol for symbol, rank in enumerate(ranks) if rank == 0]
    tree, open_places = [], 1
    while open_places:
        room = most - len(tree) - open_places
        fitting = [symbol for symbol, rank in enumerate(ranks) if 0 < rank <= room]
        if not fitting or open_places > 1 and numbers.randrange(2):
            fitting = leaves
        tree.append(numbers.choice(fitting))
        open_places += ranks[tree[-1]] - 1
    return tree


def met_tree_pairs(first, second):
    """The pairs of states that some tree has in both machines."""
    ranks = first[0]
    met = set()
    while True:
        further = set(met)
        for symbol, rank in enumerate(ranks):
            for kids in itertools.product(sorted(met), repeat=rank):
                further.add(tuple(entry(machine, symbol, [kid[part] for kid in kids])
                                  for part, machine in enumerate((first, second))))
        if further == met:
            return met
        met = further


def entry(machine, symbol, kids):
    place = 0
    for kid in kids:
        place = place * len(machine[3]) + kid
    return machine[2][symbol][place]


def answer_alike(first, second):
    return all(first[3][one] == second[3][two] for one, two in met_tree_pairs(first, second))


def first_tree_of_pairs(first, second):
    """For each pair of states that is met the first tree, found by trying again and again to better what is there."""
    ranks = first[0]
    firsts = {}
    changed = True
    while changed:
        changed = False
        for symbol, rank in enumerate(ranks):
            for kids in itertools.product(sorted(firsts), repeat=rank):
                tree = [symbol] + [one for kid in kids for one in firsts[kid]]
                pair = tuple(entry(machine, symbol, [kid[part] for kid in kids])
                             for part, machine in enumerate((first, second)))
                if pair not in firsts or (len(tree), tree) < (len(firsts[pair]), firsts[pair]):
                    firsts[pair] = tree
                    changed = True
    return firsts


def plain_first_trees(machine):
    firsts = first_tree_of_pairs(machine, machine)
    return [firsts.get((state, state)) for state in range(len(machine[3]))]


def plain_tree_difference(first, second):
    firsts = first_tree_of_pairs(first, second)
    trees = [tree for (one, two), tree in firsts.items() if first[3][one] != second[3][two]]
    return min(trees, key=lambda tree: (len(tree), tree)) if trees else None


def doubling(states, outputs=None):
    """A machine whose state i is that of the trees in which each branch has i symbols of rank 2, or more."""
    last = states - 1
    rule = tuple(min(p + 1, last) if p == q else 0 for p in range(states) for q in range(states))
    return ((0, 2), 2, ((0,), rule), outputs or (0,) * last + (1,))


def reordered(numbers, machine):
    """The same machine with its states in another order."""
    ranks, outs, rules, outputs = machine
    order = list(range(len(outputs)))
    numbers.shuffle(order)
    place = {state: number for number, state in enumerate(order)}
    turned = []
    for symbol, rank in enumerate(ranks):
        turned.append(tuple(place[entry(machine, symbol, kids)] for kids in itertools.product(order, repeat=rank)))
    return (ranks, outs, tuple(turned), tuple(outputs[state] for state in order))


def with_twin(numbers, machine, state):
    """One state more, which answers like the state and takes its place here and there."""
    ranks, outs, rules, outputs = machine
    count = len(outputs)
    larger = []
    for symbol, rank in enumerate(ranks):
        row = []
        for kids in itertools.product(range(count + 1), repeat=rank):
            after = entry(machine, symbol, [state if kid == count else kid for kid in kids])
            row.append(count if after == state and numbers.randrange(2) else after)
        larger.append(tuple(row))
    return (ranks, outs, tuple(larger), outputs + (outputs[state],))


def with_treeless_state(numbers, machine):
    """One state more, which no tree has."""
    ranks, outs, rules, outputs = machine
    count = len(outputs)
    larger = []
    for symbol, rank in enumerate(ranks):
        row = []
        for kids in itertools.product(range(count + 1), repeat=rank):
            row.append(numbers.randrange(count + 1) if count in kids else entry(machine, symbol, kids))
        larger.append(tuple(row))
    return (ranks, outs, tuple(larger), outputs + (numbers.randrange(outs),))
