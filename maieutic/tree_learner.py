"""The search for the states of a tree machine."""

from maieutic.halving import Halving
from maieutic.search import Search
from maieutic.trees import kids_of, states_of_trees, tree_order


class TreeLearner(Search):
    """Finds a tree for each state; known outputs are looked up in a dict from trees to outputs.

    All trees in here are tuples. The rows are the trees of one symbol over the trees of states. A
    frame is a pair of the symbols before and behind a gap; a tree in the gap makes it a whole tree.
    """

    def __init__(self, ranks, outs, most):
        super().__init__(most)
        self._ranks = ranks
        self._outs = outs
        self._frames = [((), ())]
        self._draft = None
        self._needed = self._cells()
        self._wrong = ()
        self._claim = 0
        self._halving = None

    def learn_from(self, tree, output):
        """Learn that the proposal is wrong for a tree with this output; return False if it is right."""
        self._claim = self._draft[3][states_of_trees(self._draft, tree)[0]]
        if output == self._claim:
            return False
        self._proposal = None
        self._wrong = tuple(tree)
        self._halving = Halving(len(tree))
        self._look()
        return True

    def _advance(self, known):
        """Go on with what is known: all needed trees are."""
        if self._halving is not None:
            output = known[self._read_backwards(self._halving.place())]
            self._halving.tell(output != self._claim)
            self._look()
            return
        new = self._new_rows(known)
        if new:
            # The least tree keeps the trees that are asked small.
            self._states.append(min(new, key=tree_order))
            self._needed = self._cells()
        else:
            self._draft = self._draw(known)
            self._proposal = self._draft

    def _look(self):
        """Need the tree of the place to look at; if the change is found, add the frame that shows it."""
        place = self._halving.place()
        if place is not None:
            self._needed = [self._read_backwards(place)]
            return
        # From this place to the next one, a symbol over trees of states is replaced by the tree of the state
        # that it leads to in the draft. So two rows that were alike differ in the frame around them.
        change = self._halving.found() + 1
        states = states_of_trees(self._draft, self._last_symbols(change))
        self._frames.append((self._first_symbols(change), self._joined(states[1:])))
        self._halving = None
        self._needed = self._cells()

    def _read_backwards(self, place):
        """Return the wrong tree with as many of its last symbols read: trees of states stand in their place."""
        states = states_of_trees(self._draft, self._last_symbols(place))
        return self._first_symbols(place) + self._joined(states)

    def _first_symbols(self, place):
        """Return the symbols of the wrong tree that are not read yet."""
        return self._wrong[:len(self._wrong) - place]

    def _last_symbols(self, place):
        """Return as many of the last symbols of the wrong tree."""
        return self._wrong[len(self._wrong) - place:]

    def _joined(self, states):
        """Return the trees of the states, one behind another."""
        symbols = ()
        for state in states:
            symbols += self._states[state]
        return symbols

    def _rows(self):
        """Return for each symbol its rows, in the order of the entries of its rule."""
        states = list(range(len(self._states)))
        rows = []
        for symbol, rank in enumerate(self._ranks):
            rows.append([(symbol,) + self._joined(kids) for kids in kids_of(rank, states)])
        return rows

    def _cells(self):
        """Return all trees of the table, the first one last."""
        cells = []
        for rows in self._rows():
            cells += [before + row + behind for row in rows for before, behind in self._frames]
        return cells[::-1]

    def _outputs(self, row, known):
        return tuple([known[before + row + behind] for before, behind in self._frames])

    def _new_rows(self, known):
        """Return the rows whose outputs are not those of the tree of a state."""
        seen = {self._outputs(tree, known): True for tree in self._states}
        return [row for rows in self._rows() for row in rows if self._outputs(row, known) not in seen]

    def _draw(self, known):
        """Return the machine whose states are those of the table."""
        numbers = {self._outputs(tree, known): state for state, tree in enumerate(self._states)}
        rules = []
        for rows in self._rows():
            rules.append(tuple([numbers[self._outputs(row, known)] for row in rows]))
        return (self._ranks, self._outs, tuple(rules), tuple([known[tree] for tree in self._states]))
