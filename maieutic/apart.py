"""Words that lead to states, and words that tell states from each other."""

from maieutic.differ import parting_word
from maieutic.least import first_places, least
from maieutic.machines import outputs_from, word_order


def ways_to(machine):
    """Return for each state the first word that leads to it, or None if no word does."""
    ways = {0: []}
    queue = [0]
    place = 0
    # States are met in the order of their first words.
    while place < len(queue):
        state = queue[place]
        place += 1
        for letter, after in enumerate(machine[2][state]):
            if after not in ways:
                ways[after] = ways[state] + [letter]
                queue.append(after)
    return [ways.get(state) for state in range(len(machine[2]))]


def telling_words(machine):
    """Return words such that the outputs along some of them differ from each two states of the least machine."""
    small = least(machine)
    words = [[]]
    same = first_places(small[3])
    # The empty word parts the states into two classes at least, if there are two states;
    # each further word parts a class. So there are fewer words than states.
    for state in range(len(same)):
        while same[state] != state:
            word = parting_word(small, same[state], state)
            words.append(word)
            same = first_places([(mark, tuple(outputs_from(small, one, word))) for one, mark in enumerate(same)])
    return sorted(words, key=word_order)
