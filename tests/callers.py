"""A caller for the askers that have no image: it keeps its own notes, and holds the report against them."""

from maieutic import errors
from tests.helper import plain_output


class PlainCaller:
    """Does what an asker's steps say. Its notes are about the asker as a box sees it."""

    # Arguments for replies that do not fit: whatever they are, the step decides.
    answers = (0, 1, -1, 99)
    shown_lists = ([], [0], [99], [0] * 301)
    asks_again = False
    asks_shown = True

    def __init__(self, test, asker):
        self.test = test
        self.asker = asker
        self.told = {}
        self.asked = []
        self.proposed = []
        self.shown = []
        self.pending = None
        self.longest = 0
        self.over = 0
        self.check()

    def value_by(self, machine, word):
        """What a proposed machine says of the word."""
        return plain_output(machine, word)

    def check(self):
        """Check the report behind each reply."""
        step = self.asker.step()
        proposed = len(self.proposed) + (step[0] == "propose")
        length = sum(len(word) for word in self.asked)
        self.test.assertEqual(self.asker.report(), (len(self.asked), length, proposed, self.longest))

    def step(self):
        """The present step, which is asked several times, and whose list is changed."""
        step = self.asker.step()
        again = self.asker.step()
        self.test.assertIsInstance(step, tuple)
        self.test.assertEqual(step, again)
        if step[0] == "ask":
            self.test.assertIsInstance(step[1], list)
            again[1].append(77)
            again[1].reverse()
            self.test.assertEqual(self.asker.step(), step)
        return step

    def check_misfits(self):
        """Replies that do not fit the present step raise Wrong and change nothing."""
        seen = (self.asker.step(), self.asker.report())
        kind = seen[0][0]
        if kind != "ask":
            for answer in self.answers:
                self.test.assertRaises(errors.Wrong, self.asker.answer, answer)
        if kind != "propose":
            self.test.assertRaises(errors.Wrong, self.asker.accept)
            for word in self.shown_lists:
                self.test.assertRaises(errors.Wrong, self.asker.show, word)
        self.test.assertEqual((self.asker.step(), self.asker.report()), seen)

    def reply(self, answer):
        """Answer the word that is asked."""
        kind, word = self.step()
        self.test.assertEqual(kind, "ask")
        if not self.asks_again:
            self.test.assertNotIn(tuple(word), self.told)
        self.over = max(self.over, len(word) - self.longest)
        self.test.assertIsNone(self.asker.answer(answer))
        self.told[tuple(word)] = answer
        self.asked.append(word)
        self.check()
        if self.pending == word and not self.asks_again:
            self.check_shown()

    def show(self, word):
        """Show a word, and change the list afterwards."""
        self.proposed.append(self.step()[1])
        self.longest = max(self.longest, len(word))
        given = list(word)
        self.test.assertIsNone(self.asker.show(given))
        self.test.assertEqual(given, list(word))
        given.append(0)
        self.shown.append(list(word))
        self.check()
        self.pending = list(word)
        if tuple(word) in self.told:
            self.check_shown()
        elif self.asks_shown:
            self.test.assertEqual(self.step(), ("ask", list(word)))

    def check_shown(self):
        """A shown word whose output is known breaks the asker if the proposal has the same output, and only then."""
        word, self.pending = self.pending, None
        agrees = self.value_by(self.proposed[-1], word) == self.told[tuple(word)]
        self.test.assertIs(self.step() == ("broken", "shown"), agrees)
        self.test.assertNotEqual(self.step(), ("ask", word))

    def accept(self):
        self.proposed.append(self.step()[1])
        self.test.assertIsNone(self.asker.accept())
        self.check()

    def break_by(self, reply, argument, reason):
        """Reply by something that is not allowed, which is not counted."""
        if reply == self.asker.show:
            self.proposed.append(self.step()[1])
        self.test.assertIsNone(reply(argument))
        self.check()
        self.test.assertEqual(self.step(), ("broken", reason))
        self.check_misfits()

    def play(self, answer_to, judge):
        """Reply until the last step; `judge` returns a word, or None if the proposal is right."""
        while True:
            step = self.step()
            if step[0] == "ask":
                self.reply(answer_to(step[1]))
            elif step[0] == "propose":
                word = judge(step[1])
                if word is None:
                    self.accept()
                else:
                    self.show(word)
            else:
                return step
