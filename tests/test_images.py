"""[2.9], [2.10]: askers from their images."""

import re
import unittest

from maieutic.asker import Asker
from maieutic.errors import BadForm, Broken, NotAllowed, Wrong
from maieutic.images import load_asker, load_parts_asker
from maieutic.parts import PartsAsker
from tests import helper
from tests.test_parts import pair_machine


def seen(asker):
    """All that can be seen of an asker."""
    return (asker.step(), asker.report(), asker.journal(), asker.image())


def give(asker, reply):
    getattr(asker, reply[0])(*reply[1:])


def right_reply(secret, shower, numbers):
    """Chooses the right reply to a step."""
    def choose(step):
        if step[0] == "ask":
            return ("answer", helper.plain_output(secret, step[1]))
        if helper.shortest_difference(step[1], secret) is None:
            return ("accept",)
        return ("show", shower(numbers, step[1], secret))
    return choose


def false_reply(outs, numbers):
    """Chooses a reply that is allowed, but need not fit any secret."""
    def choose(step):
        if step[0] == "ask":
            return ("answer", numbers.randrange(outs))
        if numbers.randrange(9) == 0:
            return ("accept",)
        return ("show", [numbers.randrange(step[1][0]) for _ in range(numbers.choice((0, 1, 3, 6, 20)))])
    return choose


def is_last(step):
    return step[0] not in ("ask", "propose")


def record(asker, choose):
    """Lead the asker to its last step; return what was seen at each step, and the replies between."""
    sights = [seen(asker)]
    replies = []
    while not is_last(asker.step()):
        replies.append(choose(asker.step()))
        give(asker, replies[-1])
        sights.append(seen(asker))
    return (sights, replies)


def record_with(asker, replies):
    sights = [seen(asker)]
    for reply in replies:
        give(asker, reply)
        sights.append(seen(asker))
    return (sights, replies)


class Stopped(unittest.TestCase):
    """An asker that is stopped at each of its steps, and begun anew from its image."""

    def check(self, load, sights, replies, stops=None):
        for stop in range(len(sights)) if stops is None else stops:
            asker = load(sights[stop][3])
            self.assertEqual(seen(asker), sights[stop])
            for place in range(stop, len(replies)):
                give(asker, replies[place])
                self.assertEqual(seen(asker), sights[place + 1])
            if is_last(sights[-1][0]):
                for reply in (("answer", 0), ("accept",), ("show", [])):
                    self.assertRaises(Wrong, give, asker, reply)

    def check_asker(self, asker, choose):
        sights, replies = record(asker, choose)
        self.check(load_asker, sights, replies)
        return sights[-1][0]

    def check_parts(self, asker, choose):
        sights, replies = record(asker, choose)
        self.check(load_parts_asker, sights, replies)
        return sights[-1][0]

    def test_an_asker_of_each_class(self):
        self.assertIs(type(load_asker("2 2 5 |")), Asker)
        self.assertIs(type(load_parts_asker("1 2 2 3 5 |")), PartsAsker)

    def test_right_replies(self):
        numbers = helper.source(1)
        for states in (1, 2, 3, 4, 4):
            secret = helper.random_machine(numbers, numbers.randrange(1, 5), numbers.randrange(1, 7), states)
            for shower in helper.SHOWERS:
                last = self.check_asker(Asker(secret[0], secret[1], 30, []), right_reply(secret, shower, numbers))
                self.assertEqual(last[0], "done")

    def test_right_replies_with_known_pairs(self):
        numbers = helper.source(2)
        for states in (1, 2, 3, 4, 4):
            secret = helper.random_machine(numbers, numbers.randrange(1, 4), numbers.randrange(2, 7), states)
            words = [word for word in helper.words_up_to(secret[0], 3) if numbers.randrange(2)]
            known = [(word, helper.plain_output(secret, word)) for word in words]
            numbers.shuffle(known)
            asker = Asker(secret[0], secret[1], 9, known + known[:3])
            last = self.check_asker(asker, right_reply(secret, helper.show_long, numbers))
            self.assertEqual(last[0], "done")

    def test_full(self):
        numbers = helper.source(3)
        secret = helper.ring(2, 6)
        for known in ([], [([], 0), ([0, 0, 1], 0), ([0] * 5, 1)]):
            last = self.check_asker(Asker(2, 2, 3, known), right_reply(secret, helper.show_long, numbers))
            self.assertEqual(last, ("full",))

    def test_false_replies(self):
        numbers = helper.source(4)
        for _ in range(30):
            letters, outs = numbers.randrange(1, 3), numbers.randrange(1, 4)
            known = [(word, numbers.randrange(outs)) for word in helper.words_up_to(letters, numbers.choice((0, 2)))]
            self.check_asker(Asker(letters, outs, 3, known), false_reply(outs, numbers))

    def test_broken_at_each_step(self):
        numbers = helper.source(5)
        secret = helper.random_machine(numbers, 2, 3, 3)
        for known in ([], [([0], helper.plain_output(secret, [0])), ([1, 1], helper.plain_output(secret, [1, 1]))]):
            sights, replies = record(Asker(2, 3, 5, known), right_reply(secret, helper.show_long, numbers))
            found = {}
            for stop, sight in enumerate(sights[:-1]):
                for bad in (("answer", 3), ("show", [0] * 301), ("show", [0, 2]), ("show", [])):
                    if (bad[0] == "answer") == (sight[0][0] == "ask"):
                        broken = record_with(Asker(2, 3, 5, known), replies[:stop] + [bad])
                        found[broken[0][-1][0]] = True
                        self.check(load_asker, *broken, stops=(stop, stop + 1))
            self.assertEqual(sorted(found), [("broken", "output"), ("broken", "shown"), ("broken", "word")])

    def test_broken_behind_a_shown_word_that_was_asked(self):
        first = Asker(1, 2, 5, [])
        sights = record_with(first, [("answer", 0), ("answer", 0), ("show", [0, 0, 0]), ("answer", 0)])
        self.assertEqual(sights[0][-1][0], ("broken", "shown"))
        self.check(load_asker, *sights)

    def test_many_states(self):
        numbers = helper.source(6)
        secret = helper.random_machine(numbers, 2, 2, 30)
        sights, replies = record(Asker(2, 2, 30, []), right_reply(secret, helper.show_long, numbers))
        self.assertEqual(load_asker(sights[-1][3]).step(), sights[-1][0])
        for stop in (len(replies) // 2, len(replies) - 1):
            self.check(load_asker, sights[:stop + 2], replies[:stop + 1], stops=(stop,))

    def test_two_askers_from_one_image(self):
        first = load_asker("2 2 5 |")
        second = load_asker("2 2 5 |")
        first.answer(1)
        self.assertEqual(second.image(), "2 2 5 |")
        second.answer(0)
        self.assertEqual(first.image(), "2 2 5 | =1")

    def test_parts_right_replies(self):
        numbers = helper.source(7)
        for states in ((1, 1), (2, 1), (1, 2), (2, 2), (3, 2)):
            first = helper.random_machine(numbers, 1, 2, states[0])
            second = helper.random_machine(numbers, 2, 3, states[1])
            whole = pair_machine(first, second)
            asker = PartsAsker((1, 2), (2, 3), 5)
            last = self.check_parts(asker, right_reply(whole, helper.show_long, numbers))
            self.assertEqual(last[0], "done")

    def test_parts_full(self):
        numbers = helper.source(8)
        whole = pair_machine(helper.ring(1, 4), helper.ring(1, 2))
        last = self.check_parts(PartsAsker((1, 1), (2, 2), 3), right_reply(whole, helper.show_long, numbers))
        self.assertEqual(last, ("full",))

    def test_parts_broken(self):
        reasons = {}
        begun = [("answer", 0)] * 3
        starts = (
            ([], [("answer", 4)]),
            ([("answer", 0)], [("answer", 6), ("answer", 1)]),
            (begun, [("show", [0] * 301), ("show", [3]), ("show", [])]),
            (begun + [("show", [0, 1])], [("answer", 0), ("answer", 1), ("answer", 4)]),
            (begun + [("show", [0, 0, 1])], [("answer", 0)]),
            (begun + [("show", [0, 0, 1]), ("answer", 2)], [("answer", 0), ("answer", 1), ("answer", 4)]),
            (begun + [("show", [0, 0, 1, 1]), ("answer", 2), ("answer", 0)], [("answer", 0), ("answer", 2)]),
        )
        for start, ends in starts:
            for end in ends:
                sights = record_with(PartsAsker((1, 1), (2, 2), 5), start + [end])
                self.assertEqual(sights[0][-1][0][0], "broken")
                self.check(load_parts_asker, *sights)
                reasons[sights[0][-1][0]] = True
        for reason in ("output", "word", "shown", "parts"):
            self.assertIn(("broken", reason), reasons)

    def test_parts_false_replies(self):
        numbers = helper.source(9)
        for _ in range(30):
            self.check_parts(PartsAsker((1, 1), (2, 1), 3), false_reply(2, numbers))
            self.check_parts(PartsAsker((2, 1), (1, 2), 2), false_reply(2, numbers))


NUMBER = re.compile(r"(0|[1-9][0-9]*)\Z", re.ASCII)
PAIR = re.compile(r"(\.|[0-9]+)=([0-9])\Z", re.ASCII)
SHOWN = re.compile(r"-(\.|[0-9]+)\Z", re.ASCII)
ANSWER = re.compile(r"=([0-9])\Z", re.ASCII)


def plain_word(text):
    return [] if text == "." else [int(sign) for sign in text]


def split_image(text):
    """The parts before and behind the line, or None."""
    parts = text.split(" ")
    if parts.count("|") != 1:
        return None
    return (parts[:parts.index("|")], parts[parts.index("|") + 1:])


def plain_asker(head):
    """The asker that begins with these parts, or None."""
    pairs = [PAIR.match(part) for part in head[3:]]
    if len(head) < 3 or not all(NUMBER.match(part) for part in head[:3]) or not all(pairs):
        return None
    known = [(plain_word(pair.group(1)), int(pair.group(2))) for pair in pairs]
    order = [(len(word), word) for word, _ in known]
    if any(one >= two for one, two in zip(order, order[1:])):
        return None
    try:
        return Asker(*[int(part) for part in head[:3]], known)
    except (NotAllowed, Broken):
        return None


def plain_parts_asker(head):
    if len(head) != 5 or not all(NUMBER.match(part) for part in head):
        return None
    numbers = [int(part) for part in head]
    try:
        return PartsAsker(tuple(numbers[:2]), tuple(numbers[2:4]), numbers[4])
    except NotAllowed:
        return None


def plain_give(asker, part, letters, outs):
    """Give a reply as it is written; return False if it is none or does not fit."""
    kind = asker.step()[0]
    answer = ANSWER.match(part)
    shown = SHOWN.match(part)
    if kind == "ask" and part == "!output":
        asker.answer(outs)
    elif kind == "ask" and answer and int(answer.group(1)) < outs:
        asker.answer(int(answer.group(1)))
    elif kind == "propose" and part == "+":
        asker.accept()
    elif kind == "propose" and part == "!word":
        asker.show([letters])
    elif kind == "propose" and shown and len(shown.group(1)) <= 300 and all(
            letter < letters for letter in plain_word(shown.group(1))):
        asker.show(plain_word(shown.group(1)))
    else:
        return False
    return True


def plain_load(text, begin):
    """The asker with this image, or None: read by a strict form, each reply held against its step."""
    parts = split_image(text)
    asker = begin(parts[0]) if parts else None
    if asker is None:
        return None
    numbers = [int(part) for part in parts[0][:4] if NUMBER.match(part)]
    if begin == plain_parts_asker:
        letters, outs = numbers[0] + numbers[1], numbers[2] * numbers[3]
    else:
        letters, outs = numbers[:2]
    for part in parts[1]:
        if not plain_give(asker, part, letters, outs):
            return None
    return asker


IMAGES = (
    "1 2 5 .=0 0=0 | -00 =0",
    "2 2 5 | =0 =0 =0 -11 =1 =0 =1 =1 =0",
    "2 2 3 | !output",
    "2 2 3 .=0 0=0 1=0 | !word",
    "2 2 3 .=0 0=0 1=0 | +",
    "2 2 3 .=0 0=0 1=0 | -10 =1",
    "4 6 30 .=5 2=3 3=0 01=2 10=1 | =1",
    "1 2 1 .=0 | =0 -000 =1 =0",
    "2 2 1 | =0 =1",
)

PARTS_IMAGES = (
    "1 1 2 2 5 | =0 =0 =0 -01 =1",
    "1 1 2 2 5 | =0 =0 =0 -001 =2 =2 =0",
    "1 1 2 2 5 | =0 =0 =0 -0011 =2 =0 =0",
    "2 1 3 2 4 | =5 =5",
    "1 2 1 6 30 | !output",
    "1 1 2 2 5 | =0 =0 =0 !word",
    "1 1 2 2 5 | =0 =0 =0 +",
)

SIGNS = " .=|+-!0123456789ao%\n\t,_\u00b2\u0663"


def changed_texts(text):
    """The text with one sign changed, left out or put in."""
    for place in range(len(text) + 1):
        for sign in SIGNS:
            yield text[:place] + sign + text[place:]
            yield text[:place] + sign + text[place + 1:]
        yield text[:place] + text[place + 1:]


def mixed_texts(text):
    """The text with a part left out, taken twice, or exchanged with the next one."""
    parts = text.split(" ")
    for place in range(len(parts)):
        yield " ".join(parts[:place] + parts[place + 1:])
        yield " ".join(parts[:place + 1] + parts[place:])
        yield " ".join(parts[:place] + parts[place:place + 2][::-1] + parts[place + 2:])


class Texts(unittest.TestCase):
    """Which texts are images."""

    def check(self, text, load, begin):
        plain = plain_load(text, begin)
        if plain is None:
            with self.subTest(text=text):
                self.assertRaises(BadForm, load, text)
            return False
        self.assertEqual(plain.image(), text)
        self.assertEqual(seen(load(text)), seen(plain))
        return True

    def check_near(self, images, load, begin, change):
        kinds = {True: 0, False: 0}
        for image in images:
            self.assertTrue(self.check(image, load, begin), image)
            for text in change(image):
                kinds[self.check(text, load, begin)] += 1
        # Some of the texts are images of other askers.
        self.assertGreater(kinds[True], 0)
        self.assertGreater(kinds[False], 100)

    def test_one_sign(self):
        self.check_near(IMAGES, load_asker, plain_asker, changed_texts)

    def test_one_sign_of_parts(self):
        self.check_near(PARTS_IMAGES, load_parts_asker, plain_parts_asker, changed_texts)

    def test_parts_of_the_text(self):
        self.check_near(IMAGES, load_asker, plain_asker, mixed_texts)
        for image in PARTS_IMAGES:
            for text in mixed_texts(image):
                self.check(text, load_parts_asker, plain_parts_asker)

    def check_bad(self, load, texts):
        for text in texts:
            with self.subTest(text=text):
                self.assertRaises(BadForm, load, text)

    def test_other_forms(self):
        self.check_bad(load_asker, (
            "", " ", "|", " |", "| ", "2", "2 2 5", "2 2 5 ", "2 2 5|", "2 2 |", "2 2 5 | |", "2 2 5 | | =0",
            "2 2 5 | =0 |", "|2 2 5 |", "2 2 5 ||", "2  2 5 |", "2 2 5  |", " 2 2 5 |", "2 2 5 | ", "2 2 5 |  =0",
            "2 2 5 | =0 ", "2 2 5 | =0  =0", "2,2,5 |", "2 2 5 |\n", "2\t2 5 |", "a b c |", "2 2 5 5 |",
            "=0 2 2 5 |", "2 .=0 2 5 |", "| 2 2 5", "2 2 5 | 2 2 5", "-2 2 5 |", "+2 2 5 |", "2 2 5. |", "2 2 0x5 |",
        ))
        self.check_bad(load_parts_asker, (
            "", "|", "1 1 2 2 |", "1 1 2 2 5 5 |", "1 1 2 2 5", "1 1 2 2 5 .=0 |", "1 1 2 2 5 | |", "1 1 2 2 5 | ",
            "1 1 2 2 5  |", " 1 1 2 2 5 |", "1 1 2 2 5 | =0 =1 !parts", "1 1 2 2 5 | !parts", "1 1 2 2 5 | =0 =1 =1",
        ))

    def test_numbers(self):
        self.check_bad(load_asker, (
            "0 2 5 |", "5 2 5 |", "2 0 5 |", "2 7 5 |", "2 2 0 |", "2 2 31 |", "02 2 5 |", "2 02 5 |", "2 2 05 |",
            "00 2 5 |", "2 2 100 |", "2 2 " + "9" * 5000 + " |", "2 2 5\u0663 |", "2 \u00b2 5 |",
        ))
        self.check_bad(load_parts_asker, (
            "0 1 2 2 5 |", "1 0 2 2 5 |", "1 4 2 2 5 |", "2 3 2 2 5 |", "1 1 0 2 5 |", "1 1 2 0 5 |", "1 1 2 4 5 |",
            "1 1 7 1 5 |", "1 1 2 2 0 |", "1 1 2 2 31 |", "01 1 2 2 5 |", "1 1 2 2 05 |", "1 1 2 2 " + "9" * 5000 + " |",
        ))

    def test_known_pairs(self):
        self.check_bad(load_asker, (
            "2 2 5 0=0 .=0 |", "2 2 5 1=0 0=0 |", "2 2 5 00=0 1=0 |", "2 2 5 0=0 0=0 |", "2 2 5 0=0 0=1 |",
            "2 2 5 .=0 .=0 |", "2 2 5 2=0 |", "2 2 5 0=2 |", "2 2 5 0=00 |", "2 2 5 =0 |", "2 2 5 0= |", "2 2 5 0 |",
            "2 2 5 0==0 |", "2 2 5 0=0=0 |", "2 2 5 .0=0 |", "2 2 5 0.=0 |", "2 2 5 ..=0 |", "2 2 5 0=-0 |",
            "2 2 5 -0=0 |", "2 2 5 0=! |", "2 2 5 a=0 |", "2 2 5 \u0661=0 |", "2 2 5 0=\u0661 |",
        ))

    def test_numbers_of_pairs_and_letters(self):
        words = ["".join(map(str, word)) or "." for word in helper.words_up_to(2, 8)]
        for count, is_image in ((400, True), (401, False)):
            text = " ".join(["2 2 5"] + [word + "=0" for word in words[:count]] + ["|"])
            self.assertEqual(self.check(text, load_asker, plain_asker), is_image)
        for length, is_image in ((400, True), (401, False)):
            self.assertEqual(self.check("2 2 5 " + "1" * length + "=0 |", load_asker, plain_asker), is_image)
        for length, is_image in ((300, True), (301, False)):
            self.assertEqual(self.check("1 2 5 .=0 0=0 | -" + "0" * length, load_asker, plain_asker), is_image)

    def test_replies(self):
        self.check_bad(load_asker, (
            "2 2 5 | +", "2 2 5 | -.", "2 2 5 | -0", "2 2 5 | !word", "2 2 5 | !shown", "2 2 5 | !full", "2 2 5 | !",
            "2 2 5 | =2", "2 2 5 | =9", "2 2 5 | =00", "2 2 5 | =", "2 2 5 | ==0", "2 2 5 | =-1", "2 2 5 | 0",
            "2 2 5 | .=0", "2 2 5 | !Output", "2 2 5 | !output+", "2 2 5 | !output =0", "2 2 5 | !output !output",
            "2 2 5 .=0 0=0 1=0 | =0", "2 2 5 .=0 0=0 1=0 | !output", "2 2 5 .=0 0=0 1=0 | + +",
            "2 2 5 .=0 0=0 1=0 | + -0", "2 2 5 .=0 0=0 1=0 | ++", "2 2 5 .=0 0=0 1=0 | -", "2 2 5 .=0 0=0 1=0 | -2",
            "2 2 5 .=0 0=0 1=0 | --0", "2 2 5 .=0 0=0 1=0 | -0.", "2 2 5 .=0 0=0 1=0 | -a", "2 2 5 .=0 0=0 1=0 | -0 =0",
            "2 2 5 .=0 0=0 1=0 | !word =0", "2 2 5 .=0 0=0 1=0 | !word !word", "2 2 5 .=0 0=0 1=0 | - 0",
        ))

    def test_the_image_of_another_asker(self):
        self.assertEqual(load_asker("2 2 4 |").image(), "2 2 4 |")
        self.assertEqual(load_asker("2 2 5 | =1").step(), ("ask", load_asker("2 2 5 | =0").step()[1]))
        self.assertEqual(load_parts_asker("2 2 2 3 4 |").image(), "2 2 2 3 4 |")


if __name__ == "__main__":
    unittest.main()
