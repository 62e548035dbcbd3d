"""Logs: all asks that a notary heard, hands perhaps again, with its answers."""

from boundorvoid.errors import InvalidAsk, InvalidText
from boundorvoid.runs import HISTORY_PARTS, is_answer, is_told
from boundorvoid.values import is_name, rises


def need_log(pact, value):
    """A value that is a log, as it is."""
    if not isinstance(value, tuple):
        raise InvalidAsk(-1)
    for at, thing in enumerate(value):
        if not is_told(pact, thing, HISTORY_PARTS):
            raise InvalidAsk(at)
    return value


def first_history(pact, log):
    """The history of the first triples of all hands."""
    return history_of(need_log(pact, log))


def history_of(log):
    """The first triples of all hands of what must be a log."""
    firsts = {}
    for triple in log:
        firsts.setdefault(triple[0], triple)
    return tuple(firsts.values())


def log_slip(pact, log):
    """The number of the first triple with another answer than the hand's first one, or None."""
    told = {}
    for at, (hand, _, answer) in enumerate(need_log(pact, log)):
        if told.setdefault(hand, answer) != answer:
            return at
    return None


def log_text(pact, log):
    """The text of a log, a line for each triple."""
    return "\n".join([" ".join([answer, hand, *shown]) for hand, shown, answer in need_log(pact, log)])


def read_log(pact, text):
    """The log with this text."""
    if not isinstance(text, str):
        raise InvalidText(-1)
    log = []
    for at, line in enumerate(text.split("\n") if text else []):
        words = line.split(" ")
        if not _is_line(words):
            raise InvalidText(at)
        log.append((words[1], tuple(words[2:]), words[0]))
    return need_log(pact, tuple(log))


def _is_line(words):
    """Whether some words are an answer, a name, and the names of a lot."""
    return is_answer(words[0]) and len(words) > 1 and all([is_name(word) for word in words[1:]]) and rises(words[2:])
