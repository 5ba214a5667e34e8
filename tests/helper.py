"""What several tests need: sample machines, slow but plain oracles, and a caller that counts."""

import itertools
import random

from maieutic import errors

EVEN = (2, 2, ((0, 1), (1, 0)), (1, 0))


def source(seed):
    """A source of numbers that is the same in each run."""
    return random.Random(seed)


def random_machine(numbers, letters, outs, states):
    moves = tuple(tuple(numbers.randrange(states) for _ in range(letters)) for _ in range(states))
    return (letters, outs, moves, tuple(numbers.randrange(outs) for _ in range(states)))


def all_machines(letters, outs, states):
    rows = list(itertools.product(range(states), repeat=letters))
    for moves in itertools.product(rows, repeat=states):
        for outputs in itertools.product(range(outs), repeat=states):
            yield (letters, outs, moves, outputs)


def chain(letters, states, outs=2):
    """A machine that shows its last state only, behind as many letters 0 as possible."""
    moves = tuple((min(state + 1, states - 1),) + (0,) * (letters - 1) for state in range(states))
    return (letters, outs, moves, (0,) * (states - 1) + (outs - 1,))


def ring(letters, states, outs=2):
    """A machine that counts the letters 0 in a ring; the last state alone has another output."""
    moves = tuple(((state + 1) % states,) + (state,) * (letters - 1) for state in range(states))
    return (letters, outs, moves, (0,) * (states - 1) + (outs - 1,))


def shuffled(numbers, machine):
    """The same machine with its states, except the first one, in another order."""
    letters, outs, moves, outputs = machine
    order = list(range(1, len(moves)))
    numbers.shuffle(order)
    order = [0] + order
    place = {state: number for number, state in enumerate(order)}
    return (letters, outs, tuple(tuple(place[after] for after in moves[state]) for state in order),
            tuple(outputs[state] for state in order))


def words_up_to(letters, longest):
    """All words of up to so many letters, in the order of words."""
    for length in range(longest + 1):
        for word in itertools.product(range(letters), repeat=length):
            yield list(word)


def plain_state(machine, word, state=0):
    for letter in word:
        state = machine[2][state][letter]
    return state


def plain_output(machine, word):
    return machine[3][plain_state(machine, word)]


def plain_along(machine, word, state=0):
    """The outputs behind each beginning of the word, if the machine begins in the state."""
    return [machine[3][plain_state(machine, word[:place], state)] for place in range(len(word) + 1)]


def told_apart(first, second):
    """The pairs of states (of both machines) from which some outputs differ, found by going backwards."""
    pairs = list(itertools.product(range(len(first[2])), range(len(second[2]))))
    apart = {pair for pair in pairs if first[3][pair[0]] != second[3][pair[1]]}
    grown = True
    while grown:
        grown = False
        for one, two in pairs:
            if (one, two) not in apart and any(
                    (first[2][one][a], second[2][two][a]) in apart for a in range(first[0])):
                apart.add((one, two))
                grown = True
    return apart


def is_numbered_in_order(machine):
    """Whether all states are reached, and first met in the order of their numbers."""
    met = [0]
    for state in range(len(machine[2])):
        if state >= len(met):
            return False
        for after in machine[2][state]:
            if after not in met:
                met.append(after)
    return met == list(range(len(machine[2])))


def is_least(machine):
    apart = told_apart(machine, machine)
    count = len(machine[2])
    return is_numbered_in_order(machine) and len(apart) == count * (count - 1)


def shortest_difference(first, second, states=(0, 0)):
    """A shortest word behind which both differ if they begin in these states, or None."""
    words = {states: []}
    level = [states]
    while level:
        following = []
        for pair in level:
            if first[3][pair[0]] != second[3][pair[1]]:
                return words[pair]
            for letter in range(first[0]):
                after = (first[2][pair[0]][letter], second[2][pair[1]][letter])
                if after not in words:
                    words[after] = words[pair] + [letter]
                    following.append(after)
        level = following
    return None


def show_first(numbers, machine, secret):
    return shortest_difference(machine, secret)


def show_long(numbers, machine, secret):
    """A word of up to 300 letters, which wanders before it comes to a difference."""
    while True:
        word = [numbers.randrange(secret[0]) for _ in range(numbers.choice((0, 3, 40, 200, 299)))]
        states = (plain_state(machine, word), plain_state(secret, word))
        rest = shortest_difference(machine, secret, states)
        if rest is not None and len(word + rest) <= 300:
            return word + rest


def show_longest(numbers, machine, secret):
    """A word of exactly 300 letters where there is one, otherwise a shorter one."""
    for _ in range(200):
        word = [numbers.randrange(secret[0]) for _ in range(300)]
        if plain_output(machine, word) != plain_output(secret, word):
            return word
    return show_long(numbers, machine, secret)


SHOWERS = (show_first, show_long, show_longest)


def digits(length):
    return len(bin(length)) - 2 if length else 0


def samples(numbers, count):
    """Machines of all sizes: random ones, chains and rings, also with states that are alike or not reached."""
    for states in (1, 2, 3, 30):
        yield chain(1, states)
        yield ring(2, states)
    for _ in range(count):
        states = numbers.choice((1, 2, 3, 3, 4, 5, 6, 8, 12, 20, 30))
        machine = random_machine(numbers, numbers.randrange(1, 5), numbers.choice((1, 2, 2, 2, 3, 6)), states)
        yield machine
        yield doubled(numbers, machine) if states <= 15 else shuffled(numbers, machine)


def doubled(numbers, machine):
    """A machine that answers alike and has each state twice; some may not be reached."""
    letters, outs, moves, outputs = machine
    count = len(moves)
    rows = [tuple(after + count * numbers.randrange(2) for after in row) for row in moves + moves]
    return (letters, outs, tuple(rows), outputs + outputs)


class Caller:
    """Does what an asker's steps say, and holds report, journal and image against its own notes."""

    def __init__(self, test, asker, head, known=()):
        self.test = test
        self.asker = asker
        self.head = head
        self.told = {tuple(word): output for word, output in known}
        self.asked = []
        self.proposed = []
        self.replies = []
        self.longest = 0
        self.over = 0
        self.shown = []
        self.check()

    def check(self):
        """Check what can be read off the asker behind each reply."""
        step = self.asker.step()
        proposed = len(self.proposed) + (step[0] == "propose")
        letters = sum(len(word) for word in self.asked)
        self.test.assertEqual(self.asker.report(), (len(self.asked), letters, proposed, self.longest))
        # Long texts and lists are compared now and then only: that makes the tests slow.
        if len(self.replies) < 50 or len(self.replies) & 31 == 0 or step[0] not in ("ask", "propose"):
            self.test.assertEqual(self.asker.image(), " ".join([self.head, "|"] + self.replies))
            self.test.assertEqual(self.asker.journal(), self.journal())

    def journal(self):
        pairs = [(list(word), self.told[word]) for word in self.told]
        return sorted(pairs, key=lambda pair: (len(pair[0]), pair[0]))

    def step(self):
        """The present step, which is asked several times."""
        step = self.asker.step()
        again = self.asker.step()
        self.test.assertEqual(step, again)
        if step[0] == "ask":
            again[1].append(77)
            self.test.assertEqual(self.asker.step(), step)
        return step

    def check_misfits(self):
        """Replies that do not fit the present step change nothing."""
        seen = (self.asker.step(), self.asker.report(), self.asker.journal(), self.asker.image())
        for reply in misfits(self.asker, seen[0][0]):
            self.test.assertRaises(errors.Wrong, reply)
        self.test.assertEqual((self.asker.step(), self.asker.report(), self.asker.journal(), self.asker.image()), seen)

    def reply(self, output):
        """Answer the word that is asked by an output."""
        kind, word = self.step()
        self.test.assertEqual(kind, "ask")
        self.test.assertNotIn(tuple(word), self.told)
        self.over = max(self.over, len(word) - self.longest)
        self.test.assertIsNone(self.asker.answer(output))
        self.told[tuple(word)] = output
        self.asked.append(word)
        self.replies.append(f"={output}")
        self.check()

    def show(self, word):
        self.proposed.append(self.step()[1])
        self.longest = max(self.longest, len(word))
        given = list(word)
        self.test.assertIsNone(self.asker.show(given))
        self.test.assertEqual(given, word)
        given.append(0)
        self.shown.append(word)
        self.replies.append("-" + image_digits(word))
        self.check()

    def accept(self):
        self.proposed.append(self.step()[1])
        self.test.assertIsNone(self.asker.accept())
        self.replies.append("+")
        self.check()

    def break_by(self, reply, argument, reason):
        """Reply by something that is out of range, which is not counted."""
        if reply == self.asker.show:
            self.proposed.append(self.step()[1])
        self.test.assertIsNone(reply(argument))
        self.replies.append("!" + reason)
        self.check()
        self.test.assertEqual(self.asker.step(), ("broken", reason))

    def play(self, secret, shower, numbers):
        """Reply rightly until the last step, and return it."""
        while True:
            step = self.step()
            if step[0] == "ask":
                self.reply(plain_output(secret, step[1]))
            elif step[0] == "propose":
                if shortest_difference(step[1], secret) is None:
                    self.accept()
                else:
                    self.show(shower(numbers, step[1], secret))
            else:
                return step

    def play_falsely(self, numbers, answer_to, patience):
        """Reply by answers, words and acceptances that need not fit any secret, until the last step."""
        while True:
            step = self.step()
            if step[0] == "ask":
                self.reply(answer_to(step[1]))
            elif step[0] == "propose":
                if numbers.randrange(patience) == 0:
                    self.accept()
                else:
                    length = numbers.choice((0, 1, 2, 5, 5, 30, 300))
                    self.show([numbers.randrange(step[1][0]) for _ in range(length)])
            else:
                return step


def misfits(asker, kind):
    """The replies that do not fit a step of this kind."""
    answers = [lambda: asker.answer(0), lambda: asker.answer(-1), lambda: asker.answer(99)]
    judgements = [asker.accept, lambda: asker.show([]), lambda: asker.show([0]), lambda: asker.show([99]),
                  lambda: asker.show([0] * 301)]
    if kind == "ask":
        return judgements
    return answers if kind == "propose" else answers + judgements


def check_asker_bounds(test, caller, letters, outs, most, states):
    """The bounds of [2.5], with this number of states in the place of n."""
    binary = digits(caller.longest)
    test.assertLessEqual(len(caller.proposed), states)
    test.assertLessEqual(len(caller.asked), states * states * (letters + 1) + states * (binary + 2))
    test.assertLessEqual(caller.over, states)
    before = 0
    for machine in caller.proposed:
        test.assertEqual(machine[:2], (letters, outs))
        test.assertTrue(is_least(machine))
        test.assertLessEqual(len(machine[2]), most)
        test.assertGreater(len(machine[2]), before)
        before = len(machine[2])


def image_digits(word):
    return "".join(str(letter) for letter in word) or "."
