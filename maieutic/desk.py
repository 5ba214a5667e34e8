"""The desk: scripts that keep machines under names, and work with them."""

from maieutic.asker import Asker
from maieutic.beside import beside
from maieutic.blind import blind_machine
from maieutic.differ import check_kin, first_difference, parting_word
from maieutic.doubt import MAX_WRONG, DoubtAsker
from maieutic.errors import Alike, BadForm, Broken, Missing, NotAllowed
from maieutic.honest import Honest, lead_on, play
from maieutic.least import least
from maieutic.lines import read_command
from maieutic.machines import MAX_STATES, output_after
from maieutic.notation import machine_text, read_machine, word_digits
from maieutic.smallest import smallest
from maieutic.suite import are_told, suite_words

MAX_SCRIPT = 2000
MAX_LINES = 40


class DoubtfulBox:
    """An honest box whose first replies are wrong: each is one greater, modulo the number of outputs."""

    def __init__(self, machine, wrong):
        self._box = Honest(machine, [])
        self._outs = machine[1]
        self._left = wrong

    def reply(self, word):
        """Return the output behind the word, or a wrong one."""
        output = self._box.reply(word)
        if self._left == 0:
            return output
        self._left -= 1
        return (output + 1) % self._outs

    def judge(self, proposal):
        """Return None if the proposal answers alike, otherwise a word behind which it is wrong."""
        return self._box.judge(proposal)


def _show(machine):
    return machine_text(machine)


def _run(machine, word):
    return str(output_after(machine, word))


def _differ(first, second):
    return word_digits(first_difference(first, second))


def _apart(machine, state, other):
    return word_digits(parting_word(machine, state, other))


def _kills(machine, other, extra):
    """Tell whether the suite tells both machines from each other."""
    words = suite_words(machine, extra)
    check_kin(machine, other)
    if len(least(other)[2]) > len(least(machine)[2]) + extra:
        return "far"
    return "yes" if are_told(words, machine, other) else "no"


def _blind(machine, words):
    """Tell that there is a machine for which the words are blind."""
    blind_machine(machine, words)
    return "other"


def _fit(letters, outs, log):
    return machine_text(smallest(letters, outs, log))


def _least(machine):
    return least(machine)


def _beside(first, second):
    return beside(first, second)


def _learn(machine, pick):
    """Return the machine that an Asker finds out."""
    asker = Asker(machine[0], machine[1], MAX_STATES, [])
    return play(asker, Honest(machine, [pick]))[1]


def _doubt(machine, wrong):
    """Return the machine that a DoubtAsker finds out although the first replies are wrong."""
    if wrong > MAX_WRONG or (machine[1] == 1 and wrong > 0):
        raise NotAllowed("there cannot be so many wrong replies")
    asker = DoubtAsker(machine[0], machine[1], MAX_STATES, wrong)
    box = DoubtfulBox(machine, wrong)
    step = lead_on(asker, box)
    # There is a last step, but it may take more replies than one play allows.
    while step[0] in ("ask", "propose"):
        step = lead_on(asker, box)
    return step[1]


# How many machines each command reads; their names stand first.
READ = {
    "let": 0, "show": 1, "least": 1, "run": 1, "differ": 2, "beside": 2, "learn": 1, "doubt": 1, "apart": 1,
    "kills": 2, "blind": 1, "fit": 0,
}

TELLERS = {
    "show": _show, "run": _run, "differ": _differ, "apart": _apart, "kills": _kills, "blind": _blind, "fit": _fit,
}

# The machines that these make are kept under the name that stands last.
MAKERS = {"least": _least, "beside": _beside, "learn": _learn, "doubt": _doubt}


def run_script(script):
    """Run the lines of the script on a new desk, and return their answers."""
    lines = script.split("\n")
    if len(script) > MAX_SCRIPT or len(lines) > MAX_LINES:
        raise NotAllowed(f"a script has at most {MAX_SCRIPT} characters and {MAX_LINES} lines")
    machines = {}
    answers = []
    for line in lines:
        answers.append(_answer(machines, line))
    return answers


def _answer(machines, line):
    """Return the answer to the line."""
    command = read_command(line)
    if command is None:
        return "bad"
    if not command:
        return ""
    if not all(name in machines for name in command[1:READ[command[0]] + 1]):
        return "none"
    try:
        return _carry_out(machines, command)
    except NotAllowed:
        return "refused"
    except BadForm:
        return "form"
    except Alike:
        return "alike"
    except Missing:
        return "missing"
    except Broken:
        return "broken"


def _carry_out(machines, command):
    """Do what the command says, and return the answer."""
    word = command[0]
    count = READ[word] + 1
    values = [machines[name] for name in command[1:count]] + list(command[count:])
    if word in TELLERS:
        tell = TELLERS[word]
        return tell(*values)
    if word == "let":
        machines[values[0]] = read_machine(values[1])
        return "ok"
    name = values.pop()
    make = MAKERS[word]
    machines[name] = make(*values)
    return "ok"
