"""Askers from their images."""

from maieutic.asker import Asker
from maieutic.errors import BadForm, Broken, NotAllowed, Wrong
from maieutic.notation import read_digits, read_number
from maieutic.parts import PartsAsker

# Neither of them is ever an output or a letter.
NO_OUTPUT = -1
NO_LETTER = -1


def load_asker(text):
    """Return the asker that has this image."""
    head, replies = _read_image(text)
    if len(head) < 3:
        raise BadForm("an asker's image begins with three numbers")
    letters, outs, most = [read_number(part) for part in head[:3]]
    known = [_read_pair(part) for part in head[3:]]
    try:
        asker = Asker(letters, outs, most, known)
    except (NotAllowed, Broken):
        raise BadForm("there is no asker with these numbers and known pairs") from None
    return _led_on(asker, replies, text)


def load_parts_asker(text):
    """Return the asker for two machines side by side that has this image."""
    head, replies = _read_image(text)
    if len(head) != 5:
        raise BadForm("five numbers stand before the line")
    numbers = [read_number(part) for part in head]
    try:
        asker = PartsAsker((numbers[0], numbers[1]), (numbers[2], numbers[3]), numbers[4])
    except NotAllowed:
        raise BadForm("there is no asker with these numbers") from None
    return _led_on(asker, replies, text)


def _read_image(text):
    """Return the parts before the line, and those behind it."""
    parts = text.split(" ")
    if parts.count("|") != 1:
        raise BadForm("an image has one line")
    line = parts.index("|")
    return (parts[:line], parts[line + 1:])


def _read_pair(part):
    word, _, output = part.partition("=")
    return (read_digits(word), read_number(output))


def _led_on(asker, replies, text):
    """Give the replies to a new asker; it must have the very text as its image then."""
    try:
        for part in replies:
            _give(asker, part)
    except Wrong:
        raise BadForm("a reply does not fit its step") from None
    # This bars all texts that can be read but are written in another way, such as
    # known pairs in another order, or an output that is none.
    if asker.image() != text:
        raise BadForm("the text is not the image of an asker")
    return asker


def _give(asker, part):
    """Give the reply that is written in this way."""
    if part == "+":
        asker.accept()
    elif part == "!output":
        asker.answer(NO_OUTPUT)
    elif part == "!word":
        asker.show([NO_LETTER])
    elif part.startswith("="):
        asker.answer(read_number(part[1:]))
    elif part.startswith("-"):
        asker.show(read_digits(part[1:]))
    else:
        raise BadForm("there is no such reply")
