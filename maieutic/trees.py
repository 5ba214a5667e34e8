"""Trees, as lists of symbols, and the machines that read them."""

from maieutic.errors import NotAllowed
from maieutic.machines import are_below

MAX_SYMBOLS = 5
MAX_RANK = 2
MAX_TREE_STATES = 6
MAX_TREE_OUTS = 4
MAX_NODES = 400


def are_ranks(ranks):
    """Return True if the tuple is ranks: numbers of kids, one for each symbol."""
    return 1 <= len(ranks) <= MAX_SYMBOLS and are_below(ranks, MAX_RANK + 1) and 0 in ranks


def is_tree(ranks, tree):
    """Return True if the list is a tree that is not too large."""
    if len(tree) > MAX_NODES or not are_below(tree, len(ranks)):
        return False
    lacking = 1
    for symbol in tree:
        if lacking == 0:
            return False
        lacking += ranks[symbol] - 1
    return lacking == 0


def check_tree_machine(machine):
    """Raise NotAllowed if the tuple is not a tree machine."""
    ranks, outs, rules, outputs = machine
    if not are_ranks(ranks):
        raise NotAllowed("the ranks of the symbols are not allowed")
    if not 1 <= outs <= MAX_TREE_OUTS:
        raise NotAllowed(f"a tree machine has 1 to {MAX_TREE_OUTS} outs, not {outs}")
    count = len(outputs)
    if not 1 <= count <= MAX_TREE_STATES:
        raise NotAllowed(f"a tree machine has 1 to {MAX_TREE_STATES} states, not {count}")
    if not are_below(outputs, outs):
        raise NotAllowed(f"an output is from 0 to {outs - 1}")
    if len(rules) != len(ranks):
        raise NotAllowed("a tree machine has one rule for each symbol")
    for rank, rule in zip(ranks, rules):
        if len(rule) != (1, count, count * count)[rank] or not are_below(rule, count):
            raise NotAllowed("a rule has one state for all states of the kids")


def check_tree(machine, tree):
    """Raise NotAllowed if the list is not a tree for the machine, or too large."""
    if not is_tree(machine[0], tree):
        raise NotAllowed("the list is not a tree for the machine")


def state_of_tree(machine, tree):
    """Return the state of the tree."""
    check_tree(machine, tree)
    return states_of_trees(machine, tree)[0]


def output_of_tree(machine, tree):
    """Return the output of the tree."""
    return machine[3][state_of_tree(machine, tree)]


def states_of_trees(machine, symbols):
    """Return the states of trees that stand one behind another in a list; the list is not checked."""
    ranks, _, rules, outputs = machine
    states = []
    # Read backwards, each symbol comes behind its kids: the first kid's state is the last one then.
    for symbol in reversed(symbols):
        place = 0
        for _ in range(ranks[symbol]):
            place = place * len(outputs) + states.pop()
        states.append(rules[symbol][place])
    return states[::-1]


def kids_of(rank, states):
    """Return all tuples of as many states as the rank says, in the order of the entries of a rule."""
    kids = [()]
    for _ in range(rank):
        kids = [few + (state,) for few in kids for state in states]
    return kids


def entry_of(kids, count):
    """Return the index of the entry for these kids in the rule of a machine with so many states."""
    place = 0
    for state in kids:
        place = place * count + state
    return place


def tree_order(tree):
    """Return a key by which trees are sorted in the order of trees."""
    return (len(tree), tree)
