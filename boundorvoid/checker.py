"""A small checker of papers: it looks at what is told, and seeks nothing."""

from boundorvoid.borne import borne_holds
from boundorvoid.climbs import ladder_holds
from boundorvoid.court import Just, Torn, check_court
from boundorvoid.dooms import trap_holds
from boundorvoid.pacts import mask_told
from boundorvoid.prospects import Lost, Safe, check_prospect, is_possible
from boundorvoid.questions import is_question
from boundorvoid.runs import SEND, asks_of, first_asks, run_fault, run_heard, run_liars
from boundorvoid.values import is_known

QUESTIONS = {
    "just": ("family",), "torn": ("family",), "unkept": ("family", "lot"), "ladder": ("hand", "row"), "hopeless": (),
    "trap": ("family",), "borne": (), "heard": ("heard", "lot"), "filled": ("heard", "lot"),
    "safe": ("family", "history"), "lost": ("family", "history"),
}


def sheet_holds(pact, kind, question, value):
    """Whether any value is a paper of a kind for a question."""
    if not is_known(kind, list(QUESTIONS)) or not is_question(pact, QUESTIONS[kind], question):
        return False
    check = CHECKS[kind]
    return check(pact, question, value)


def _is_tuple_of(value, many):
    return isinstance(value, tuple) and len(value) == many


def _shows_just(pact, question, value):
    return check_court(pact, question[0], Just(value))


def _shows_torn(pact, question, value):
    return _is_tuple_of(value, 2) and check_court(pact, question[0], Torn(value[0], value[1]))


def _shows_unkept(pact, question, value):
    if not _shows_torn(pact, question, value):
        return False
    hand, row = value
    return all([name in question[1] for name in (hand, *row)])


def _is_ladder(pact, question, value):
    return ladder_holds(pact, question[0], question[1], value)


def _is_hopeless(pact, _, value):
    if run_fault(pact, value) is not None or run_liars(pact, value) != () or not _sends_paper(pact, value):
        return False
    asks = first_asks(value)
    # If some ask comes ahead of a ready note, the first one does.
    return len(asks) > 0 and not _are_sent(pact.ready, value[:asks[0][0]])


def _sends_paper(pact, run):
    return _are_sent(mask_told(pact, pact.whole), run)


def _are_sent(names, run):
    """Whether a run sends some notes."""
    return all([(SEND, name) in run for name in names])


def _is_trap(pact, question, value):
    return trap_holds(pact, question[0], value)


def _is_borne(pact, _, value):
    return borne_holds(pact, value)


def _is_heard(pact, question, value):
    return run_fault(pact, value) is None and (run_heard(pact, value), run_liars(pact, value)) == question


def _is_filled(pact, question, value):
    return _is_heard(pact, question, value) and _sends_paper(pact, value)


def _shows_safe(pact, question, value):
    return _shows_prospect(pact, question, Safe(value))


def _shows_lost(pact, question, value):
    return _is_tuple_of(value, 3) and _shows_prospect(pact, question, Lost(value[0], value[1], value[2]))


def _shows_prospect(pact, question, value):
    family, history = question
    return is_possible(pact, family, asks_of(history)) and check_prospect(pact, family, history, value)


CHECKS = {
    "just": _shows_just, "torn": _shows_torn, "unkept": _shows_unkept, "ladder": _is_ladder,
    "hopeless": _is_hopeless, "trap": _is_trap, "borne": _is_borne, "heard": _is_heard, "filled": _is_filled,
    "safe": _shows_safe, "lost": _shows_lost,
}
