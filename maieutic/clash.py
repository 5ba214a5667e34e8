"""Beginnings of the words of a log that must lead to different states."""

from maieutic.machines import word_order
from maieutic.smallest import check_log


def beginnings(log):
    """Return all beginnings of the words of the log, each once, in the order of words."""
    return [list(word) for word in sorted(_endings(log), key=word_order)]


def do_clash(log, first, second):
    """Return True if both words, followed by some word, are words of the log with different outputs."""
    endings = _endings(log)
    return _contradict(endings.get(tuple(first), {}), endings.get(tuple(second), {}))


def clash_list(letters, outs, log):
    """Return beginnings of which each two clash, and to which no other one can be added."""
    check_log(letters, outs, log)
    endings = _endings(log)
    order = sorted(endings, key=word_order)
    # The first word that clashes with any other one is taken first, so that it gets company.
    chosen = []
    for word in order:
        clashing = [other for other in order if _contradict(endings[word], endings[other])]
        if clashing and all(other in clashing for other in chosen):
            chosen.append(word)
    if not chosen:
        return [[]]
    return [list(word) for word in chosen]


def _endings(log):
    """Return for each beginning the words that may follow it, each with the output that the log says."""
    endings = {(): {}}
    for word, output in log:
        whole = tuple(word)
        for place in range(len(whole) + 1):
            endings.setdefault(whole[:place], {})[whole[place:]] = output
    return endings


def _contradict(endings, others):
    """Return True if the same word has another output among the others."""
    return any(others.get(word, output) != output for word, output in endings.items())
