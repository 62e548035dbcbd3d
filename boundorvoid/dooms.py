"""Runs that no rule gets right all together, and how deep a rule must look."""

from boundorvoid.climbs import leads_through, need_row, row_moments
from boundorvoid.court import Just, court
from boundorvoid.errors import Refused
from boundorvoid.families import in_family, need_family
from boundorvoid.lots import without
from boundorvoid.pacts import lies_under, lot_mask, ready_note
from boundorvoid.rules import deep_answer, need_depth
from boundorvoid.runs import ASK, BOUND, VOID, need_run, run_fault, run_liars, sends_of
from boundorvoid.wrongs import Facts, ask_bound_by, replay, run_wrongs, wrongs_by


def failing_part(pact, hand, row):
    """The shortest first part of a row that fails from a hand; None if all hold."""
    ready = ready_note(pact, hand)
    need_row(pact, row)
    return part_failing_from(pact, ready, row)


def part_failing_from(pact, note, row):
    """The shortest first part of a row that fails from a note; None if all hold."""
    for many in range(1, len(row) + 1):
        if not leads_through(pact, note, row[:many]):
            return row[:many]
    return None


def row_trap(pact, hand, row):
    """The runs in one of which every rule is wrong, as the row fails from the hand."""
    part = _need_failing(pact, hand, row)
    ends = _runs_in_turn(pact, hand, part)
    filled = ends[-1] + tuple(sends_of(pact, pact.whole & ~_sent_mask(pact, hand, part)))
    return (*ends[1:], filled)


def _need_failing(pact, hand, row):
    """The shortest first part of a row that fails from a hand."""
    part = failing_part(pact, hand, row)
    if part is None:
        raise Refused("holds")
    return part


def _runs_in_turn(pact, hand, row):
    """For each hand of a row the run in which all up to it ask in turn and show the row's moments."""
    runs = []
    events = ()
    sent = 0
    for name, moment in zip(row, row_moments(pact, hand, row)):
        shown = lot_mask(pact, moment)
        events = (*events, *sends_of(pact, shown & ~sent), (ASK, name, moment))
        sent = shown
        runs.append(events)
    return runs


def _sent_mask(pact, hand, row):
    """What is sent when the last hand of a row asks in turn."""
    return lot_mask(pact, row_moments(pact, hand, row)[-1])


def doom_run(pact, hand, row, rule):
    """The run of the trap of a failing row in which a rule is wrong."""
    part = _need_failing(pact, hand, row)
    runs = row_trap(pact, hand, part)
    at = ask_bound_by((), list(zip(part, row_moments(pact, hand, part))), rule)
    if at is None:
        return runs[-1]
    # The first run has the asks of two hands: either one may be told bound there.
    return runs[max(at - 1, 0)]


def wrong_runs(pact, runs, rule):
    """The numbers of the runs in which a rule is wrong."""
    for run in runs:
        need_run(pact, run)
    found = []
    for at, run in enumerate(runs):
        answers = [answer for _, _, answer in replay(pact, run, rule)]
        if run_wrongs(pact, run, answers):
            found.append(at)
    return tuple(found)


def fewest_wrong(pact, runs):
    """In how few of the runs a rule can be wrong."""
    for run in runs:
        need_run(pact, run)
    return _fewest_behind([Facts(pact, run) for run in runs], ())


def _fewest_behind(facts, answers):
    """In how few of some runs, which sound alike up to these answers, a rule can be wrong."""
    at = len(answers)
    many = 0
    groups = {}
    for one in facts:
        if len(one.asks) == at:
            many = many + (1 if wrongs_by(one, answers) else 0)
        else:
            groups.setdefault(one.asks[at][1:], []).append(one)
    for group in groups.values():
        many = many + min([_fewest_behind(group, answers + (answer,)) for answer in (BOUND, VOID)])
    return many


def trap_holds(pact, family, value):
    """Whether any value is a tuple of runs that fit the family, in one of which every rule is wrong."""
    need_family(pact, family)
    if not isinstance(value, tuple):
        return False
    for run in value:
        if run_fault(pact, run) is not None or not in_family(family, run_liars(pact, run)):
            return False
    return fewest_wrong(pact, value) > 0


def least_trap(pact, family):
    """The trap of the row that the court finds; None for a just pact."""
    found = court(pact, family)
    if isinstance(found, Just):
        return None
    return row_trap(pact, found.hand, found.row)


def coin_depths(pact, family):
    """The depths of the rules between which a coin is to be tossed."""
    found = court(pact, family)
    if isinstance(found, Just):
        return (None,)
    return (*list(range(1, len(found.row))), None)


def least_depth(pact, family):
    """The least depth to which a rule is wrong in no run that fits; None for a torn pact."""
    if not isinstance(court(pact, family), Just):
        return None
    if len(family) == 1 and len(family[0]) == 1 and _is_above_ready(pact, family[0][0], pact.hands):
        return 2
    return min(2 + max([len(lot) for lot in family]), len(pact.hands))


def _is_above_ready(pact, hand, hands):
    """Whether the ready notes of some hands lie under that of a hand."""
    ready = ready_note(pact, hand)
    return all([lies_under(pact, ready_note(pact, other), ready) for other in hands])


def depth_run(pact, family, depth):
    """Some run that fits in which the rule to a depth is wrong; None if there is none."""
    least = least_depth(pact, family)
    need_depth(depth)
    if least is None:
        found = court(pact, family)
        return doom_run(pact, found.hand, found.row, lambda history, hand, moment: deep_answer(
            pact, history, hand, moment, depth=depth))
    if depth is None or depth >= least:
        return None
    if depth == 0:
        return ((ASK, pact.hands[0], ()),)
    return _shallow_run(pact, family, depth)


def _shallow_run(pact, family, depth):
    """A run in which hands of rank 1, 2, .. are told void, all but the last of them lie, and one more is told bound."""
    for missed in pact.hands:
        if any([_lies_below(pact, missed, other) for other in pact.hands]):
            continue
        for lot in family:
            row = _row_past(pact, lot, missed, depth)
            if row is not None:
                return _runs_in_turn(pact, missed, row)[-1]
    return None


def _lies_below(pact, hand, other):
    """Whether the ready note of a hand lies under that of another one."""
    return hand != other and lies_under(pact, ready_note(pact, hand), ready_note(pact, other))


def _row_past(pact, lot, missed, depth):
    """A row of one hand more than the depth, all but two of a lot, not begun by the missed hand; None if none is."""
    liars = [*without(lot, missed), *[hand for hand in lot if hand == missed]][:depth - 1]
    others = [*without(pact.hands, missed), missed]
    row = (*liars, *[hand for hand in others if hand not in liars])[:depth + 1]
    # What the hand that is missed climbs to at once is its ready note itself, which would be missing again.
    if len(liars) < depth - 1 or row[0] == missed:
        return None
    return row
