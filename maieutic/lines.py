"""The lines of a script."""

from maieutic.errors import BadForm
from maieutic.notation import read_digits, read_number

MAX_NAME = 6
NAME_SIGNS = "abcdefghijklmnopqrstuvwxyz"
NUMBER_DIGITS = 3

# What stands behind the first word of a line, a sign for each word: N a name, K a number, W a word of letters.
FORMS = {
    "show": "N", "least": "NN", "run": "NW", "differ": "NN", "beside": "NNN", "learn": "NKN", "doubt": "NKN",
    "apart": "NKK", "kills": "NNK", "blind": "N", "fit": "KK",
}

# What may stand behind that any number of times: P is a word of letters with its output.
LISTS = {"blind": "W", "fit": "P"}


def read_command(line):
    """Return what the line says as a tuple, the empty one for the empty line, or None if it is of another form."""
    if not line:
        return ()
    first, _, rest = line.partition(" ")
    try:
        if first == "let":
            return _read_let(rest)
        return _read_words(line.split(" "))
    except BadForm:
        return None


def _read_let(rest):
    """Return the command `let` with what stands behind it."""
    name, space, text = rest.partition(" ")
    if not space:
        raise BadForm("a space stands behind the name")
    return ("let", _read_name(name), text)


def _read_words(words):
    """Return the command that consists of these words."""
    command = words[0]
    form = FORMS.get(command)
    if form is None:
        raise BadForm("there is no such command")
    fixed = words[1:len(form) + 1]
    more = words[len(form) + 1:]
    if len(fixed) < len(form) or (more and command not in LISTS):
        raise BadForm("there are too few or too many words")
    values = [_read_part(kind, text) for kind, text in zip(form, fixed)]
    if command in LISTS:
        values.append([_read_part(LISTS[command], text) for text in more])
    return (command,) + tuple(values)


def _read_part(kind, text):
    """Return what a word of a line means."""
    if kind == "N":
        return _read_name(text)
    if kind == "K":
        return read_number(text, NUMBER_DIGITS)
    if kind == "W":
        return read_digits(text)
    return _read_pair(text)


def _read_name(text):
    if not 1 <= len(text) <= MAX_NAME or not all(sign in NAME_SIGNS for sign in text):
        raise BadForm("a name has small letters, not too many")
    return text


def _read_pair(text):
    word, _, output = text.partition("=")
    return (read_digits(word), read_number(output, 1))
