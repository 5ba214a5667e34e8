"""Machines and words as texts."""

from maieutic.errors import BadForm, NotAllowed
from maieutic.machines import MAX_LETTERS, MAX_WORD, check_machine, is_word

DIGITS = "0123456789"


def machine_text(machine):
    """Return the text of the machine."""
    letters, outs, moves, outputs = machine
    states = []
    for row, output in zip(moves, outputs):
        states.append("".join([f" {number}" for number in (output,) + row]))
    return f"{letters} {outs}:" + ";".join(states)


def read_machine(text):
    """Return the machine that has this text."""
    head, _, body = text.partition(":")
    sizes = _read_numbers(head)
    if len(sizes) != 2:
        raise BadForm("two numbers stand before the colon")
    moves = []
    outputs = []
    for part in body.split(";"):
        if not part.startswith(" "):
            raise BadForm("a space stands before each number of a state")
        numbers = _read_numbers(part[1:])
        outputs.append(numbers[0])
        moves.append(tuple(numbers[1:]))
    machine = (sizes[0], sizes[1], tuple(moves), tuple(outputs))
    try:
        check_machine(machine)
    except NotAllowed:
        raise BadForm("the text is not that of a machine") from None
    return machine


def word_text(word):
    """Return the letters in decimal digits, separated by spaces, and - for the empty word."""
    if not word:
        return "-"
    return " ".join([str(letter) for letter in word])


def read_word(text):
    """Return the word that has this text."""
    if text == "-":
        return []
    word = _read_numbers(text)
    if not is_word(word, MAX_LETTERS, MAX_WORD):
        raise BadForm("the text is not that of a word")
    return word


def word_digits(word):
    """Return the letters as digits without spaces, and a dot for the empty word."""
    if not word:
        return "."
    return "".join([str(letter) for letter in word])


def _read_numbers(text):
    return [read_number(part) for part in text.split(" ")]


def read_digits(text):
    """Return the word whose letters are written as digits without spaces, with a dot if it is empty."""
    if text == ".":
        return []
    if not text or not all(sign in DIGITS for sign in text):
        raise BadForm("the letters of a word are written as digits")
    return [int(sign) for sign in text]


def read_number(text, longest=2):
    """Return the number that has this text, of at most so many digits."""
    if not 1 <= len(text) <= longest or not all(sign in DIGITS for sign in text):
        raise BadForm("a number is written in decimal digits")
    if len(text) > 1 and text[0] == "0":
        raise BadForm("a number has no leading zeros")
    return int(text)
