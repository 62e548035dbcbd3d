"""Which answers are right behind what was asked and answered."""

from boundorvoid.errors import Refused
from boundorvoid.families import in_family, need_family
from boundorvoid.lots import parts_of, without
from boundorvoid.pacts import hand_lot, key_level
from boundorvoid.prospects import is_lost, is_possible, lost_asks, lost_runs, prospect
from boundorvoid.reaches import are_in_paper, highest_levels, table_places
from boundorvoid.rules import need_first_ask
from boundorvoid.runs import BOUND, VOID, asks_of, need_heard, need_history
from boundorvoid.wrongs import ask_bound_by, told_history


def right_answers(pact, family, history, hand, moment):
    """The lot of the answers to an ask that are right behind a history."""
    need_family(pact, family)
    need_first_ask(pact, history, hand, moment)
    if not is_possible(pact, family, asks_of(history) + ((hand, moment),)):
        raise Refused("liars")
    return tuple([answer for answer in (BOUND, VOID) if not is_lost(
        pact, family, history + ((hand, moment, answer),))])


def first_wrong_answer(pact, family, history):
    """The number of the first entry with which a history is lost, while it is possible; None if there is none."""
    need_family(pact, family)
    need_history(pact, history)
    for at in range(len(history)):
        ahead = history[:at + 1]
        if is_possible(pact, family, asks_of(ahead)) and is_lost(pact, family, ahead):
            return at
    return None


def _need_possible_heard(pact, family, heard):
    need_family(pact, family)
    need_heard(pact, heard)
    if not is_possible(pact, family, heard):
        raise Refused("liars")


def wrong_rule_run(pact, family, heard, rule):
    """Some run that fits in which a rule is wrong by its first wrong answer to some asks; None if all are right."""
    _need_possible_heard(pact, family, heard)
    history = told_history((), heard, rule)
    at = first_wrong_answer(pact, family, history)
    if at is None:
        return None
    ahead = history[:at + 1]
    lost = prospect(pact, family, ahead)
    runs = lost_runs(pact, ahead, lost)
    bound = ask_bound_by(ahead, lost_asks(pact, ahead, lost), rule)
    return runs[-1] if bound is None else runs[bound]


def right_rows(pact, family, heard):
    """All rows of answers to some asks, each right behind those ahead, ascending."""
    _need_possible_heard(pact, family, heard)
    histories = [()]
    for hand, moment in heard:
        longer = [history + ((hand, moment, answer),) for history in histories for answer in (BOUND, VOID)]
        histories = [history for history in longer if not is_lost(pact, family, history)]
    return tuple([tuple([answer for _, _, answer in history]) for history in histories])


def first_limits(pact, family):
    """For each hand how high the note may be that it did not show, if it is told void and asks first; -1 for none."""
    need_family(pact, family)
    return tuple([_limit_of(pact, family, hand) for hand in pact.hands])


def _limit_of(pact, family, hand):
    """The greatest level, at most the key note's, from which no row fails that may be asked behind the hand."""
    number = pact.hand_numbers[hand]
    level = key_level(pact, number)
    others = without(hand_lot(pact), hand)
    places = table_places(others, [lot for lot in parts_of(others) if in_family(family, lot + (hand,))])
    while level >= 0 and not are_in_paper(pact, highest_levels(pact, [pact.rows[number][level]], places)):
        level = level - 1
    return level
