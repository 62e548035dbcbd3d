"""Whom the answers of a notary wrong in a run."""

from boundorvoid.errors import Refused
from boundorvoid.pacts import key_note, lies_under, lot_mask, ready_note, under_of, whole_paper
from boundorvoid.runs import ASK, BOUND, SEND, VOID, first_asks, is_answer, need_run, run_liars, sends_of

UNREADY = "unready"
PARTED = "parted"
PAPER = "paper"


class Facts:
    """What all answers to one run are measured by; events are told by their numbers."""

    def __init__(self, pact, run):
        liars = run_liars(pact, run)
        sent = {event[1]: at for at, event in enumerate(run) if event[0] == SEND}
        whole = whole_paper(pact)
        self.asks = first_asks(run)
        self.honest = [hand for hand in pact.hands if hand not in liars]
        self.ready = {hand: sent.get(ready_note(pact, hand), len(run)) for hand in self.honest}
        self.filled = None
        if all([name in sent for name in whole]):
            self.filled = max([sent[name] for name in whole])


def replay(pact, run, rule):
    """The history that a rule makes of the first asks of a run."""
    need_run(pact, run)
    return told_history((), [(hand, moment) for _, hand, moment in first_asks(run)], rule)


def told_history(history, asks, rule):
    """A history with more asks, told what a rule answers to each of them."""
    for hand, moment in asks:
        history = history + ((hand, moment, answer_by(rule, history, hand, moment)),)
    return history


def answer_by(rule, history, hand, moment):
    """What a rule returns, which must be an answer."""
    answer = rule(history, hand, moment)
    if not is_answer(answer):
        raise Refused("answer")
    return answer


def ask_bound_by(history, asks, rule):
    """The number of the first of some asks behind a history that a rule tells bound, or None."""
    for at, (hand, moment) in enumerate(asks):
        answer = answer_by(rule, history, hand, moment)
        if answer == BOUND:
            return at
        history = history + ((hand, moment, answer),)
    return None


def run_wrongs(pact, run, answers):
    """Who is wronged in a run by the answers to its first asks: triples of hand, event and word."""
    need_run(pact, run)
    return tuple(wrongs_by(Facts(pact, run), answers))


def wrongs_by(facts, answers):
    """The wrongs of some answers, honest hands in the hands' order."""
    bounds = []
    voids = {}
    for (at, hand, _), answer in zip(facts.asks, answers):
        if answer == BOUND:
            bounds.append(at)
        else:
            voids[hand] = at
    first_bound = bounds[0] if bounds else None
    wrongs = []
    for hand in facts.honest:
        found = _wrongs_of(facts, hand, first_bound, voids.get(hand))
        if found:
            at, word = min(found, key=lambda wrong: wrong[0])
            wrongs.append((hand, at, word))
    return wrongs


def _wrongs_of(facts, hand, bound, void):
    """How an honest hand is wronged, pairs of event and word, by the first bound and the void that it is told."""
    found = []
    if bound is not None and facts.ready[hand] > bound:
        found.append((bound, UNREADY))
    if void is not None and bound is not None:
        found.append((max(void, bound), PARTED))
    if void is not None and facts.filled is not None:
        found.append((max(void, facts.filled), PAPER))
    return found


def good_answers(pact, run):
    """All tuples of answers to the first asks of a run that wrong nobody there, ascending."""
    need_run(pact, run)
    facts = Facts(pact, run)
    rows = [()]
    for _ in facts.asks:
        rows = [row + (answer,) for row in rows for answer in (BOUND, VOID)]
    return tuple([row for row in rows if not wrongs_by(facts, row)])


def hopeless_run(pact):
    """A run in which nobody lies and whatever is answered wrongs somebody; None if there is none."""
    for waiting in pact.hands:
        for asking in pact.hands:
            key = key_note(pact, asking)
            if not lies_under(pact, ready_note(pact, waiting), key):
                return _run_past(pact, asking, under_of(pact, key))
    return None


def _run_past(pact, hand, moment):
    """The run in which a hand asks at a moment, and then the rest of the whole paper is sent."""
    shown = lot_mask(pact, moment)
    ahead = sends_of(pact, shown)
    behind = sends_of(pact, pact.whole & ~shown)
    return (*ahead, (ASK, hand, moment), *behind)
