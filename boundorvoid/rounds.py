"""Beats: hands who write at the same time, each note waiting for all of the beats ahead."""

from boundorvoid.errors import InvalidRow, Refused
from boundorvoid.lots import parts_of
from boundorvoid.pacts import Pact
from boundorvoid.parts import MOST_NOTES
from boundorvoid.turns import note_name
from boundorvoid.values import is_lot_of
from boundorvoid.wants import Wants, all_states, wanted_with
from boundorvoid.webs import mask_numbers
from boundorvoid.wishes import family_wishes


def beats_pact(hands, beats):
    """The pact of some hands who write by beats."""
    fault = _beats_fault(hands, beats)
    if fault is not None:
        raise InvalidRow(fault)
    if not _all_come(hands, beats):
        raise Refused("begun")
    if sum([len(beat) for beat in beats]) > MOST_NOTES:
        raise Refused("beats")
    notes = []
    for beat in beats:
        waits = tuple([note[0] for note in notes])
        notes.extend([(note_name(len(waits) + at), hand, waits) for at, hand in enumerate(beat)])
    ready = [[name for name, owner, _ in notes if owner == hand][0] for hand in hands]
    return Pact(hands, notes, ready, tuple([note[0] for note in notes]))


def _beats_fault(hands, value):
    """The first wrong place of any value that should be beats, -1 for what is no tuple; None for beats."""
    if not isinstance(value, tuple):
        return -1
    for at, thing in enumerate(value):
        if not is_lot_of(thing, hands) or not thing:
            return at
    return None


def _all_come(hands, beats):
    return all([any([hand in beat for beat in beats]) for hand in hands])


def beats_just(hands, family, beats):
    """Whether all hands come, and the pact of the beats is just."""
    if not _all_come(hands, beats):
        return False
    stretch = _stretch_of(hands, beats)
    return all([_is_found(wish, stretch) for wish in family_wishes(hands, family)])


def _stretch_of(hands, beats):
    """What counts of beats in which all hands come: those behind the one at which the last hand begins, and this."""
    begins = [[at for at, beat in enumerate(beats) if hand in beat][0] for hand in hands]
    start = max(begins)
    last = tuple([hand for hand, begin in zip(hands, begins) if begin == start])
    # Of hands that begin together each must be found again behind the ready note of the other.
    counted = last if len(last) == 1 else ()
    return (counted, *beats[start + 1:])


def _is_found(row, beats):
    """Whether each hand of a row is in a beat behind that of the one ahead of it."""
    many = 0
    for beat in beats:
        if many < len(row) and row[many] in beat:
            many = many + 1
    return many == len(row)


def early_beats(pact):
    """For each height the hands with a note of the whole paper that stands so high above others."""
    heights = []
    for at, mask in enumerate(pact.unders):
        below = [heights[other] for other in mask_numbers(mask & ~(1 << at))]
        heights.append(max(below, default=-1) + 1)
    whole = mask_numbers(pact.whole)
    many = max([heights[at] for at in whole]) + 1
    beats = [[] for _ in range(many)]
    for at in whole:
        beats[heights[at]].append(pact.notes[at][1])
    return tuple([tuple(sorted(beat)) for beat in beats])


class BeatsMachine:
    """All that beats may come to, with a step for each lot of hands that may write; the beats are just at the goal."""

    def __init__(self, lots, steps, goal, far):
        self.lots = lots
        self.steps = steps
        self.goal = goal
        self.far = far


def _machine_of(hands, family):
    """The machine of the beats of some hands; far are more notes than the fewest that lead to the goal."""
    wants = Wants(hands, family_wishes(hands, family))
    lots = sorted([lot for lot in parts_of(hands) if lot])
    states, steps = all_states((0, wants.first), lots, lambda state, lot: _state_behind(wants, hands, state, lot))
    goal = states.index(((1 << len(hands)) - 1, 0))
    # The fewest notes never come to a state twice.
    return BeatsMachine(lots, steps, goal, len(hands) * len(states) + 1)


def _state_behind(wants, hands, state, lot):
    """The bits of the hands that came, and what is wanted, behind one more beat."""
    came, wanted = state
    fresh = tuple([hand for at, hand in enumerate(hands) if not came >> at & 1])
    behind = came
    for hand in lot:
        behind = behind | 1 << hands.index(hand)
    if behind != (1 << len(hands)) - 1:
        return behind, wanted
    if not fresh:
        return behind, wanted_with(wants, wanted, lot)
    return behind, wanted_with(wants, wanted, fresh if len(fresh) == 1 else ())


def _first_counts(machine):
    """For each state how few notes lead to the goal by no beats."""
    return [0 if at == machine.goal else machine.far for at in range(len(machine.steps))]


def _longer_counts(machine, counts):
    """The same by at most one beat more."""
    found = []
    for at, behind in enumerate(machine.steps):
        ways = [len(lot) + counts[state] for lot, state in zip(machine.lots, behind)]
        found.append(min(counts[at], min(ways)))
    return found


def fewest_beats(hands, family, many):
    """Of the just beats, at most so many, those of the fewest notes, then beats, then the least; None without any."""
    machine = _machine_of(hands, family)
    rows = [_first_counts(machine)]
    while len(rows) <= many:
        rows.append(_longer_counts(machine, rows[-1]))
    notes = rows[-1][0]
    if notes >= machine.far:
        return None
    fewest = [row[0] for row in rows].index(notes)
    return _least_beats(machine, rows[:fewest + 1])


def _least_beats(machine, rows):
    """The least beats, one for each row but the first, that have the notes that the last row tells."""
    beats = []
    state = 0
    for behind, ahead in zip(rows[-2::-1], rows[:0:-1]):
        for lot, other in zip(machine.lots, machine.steps[state]):
            if len(lot) + behind[other] == ahead[state]:
                break
        beats.append(lot)
        state = other
    return tuple(beats)


def beats_front(hands, family):
    """The pairs of a number of beats and of notes for which fewer notes do than with fewer beats."""
    machine = _machine_of(hands, family)
    counts = _first_counts(machine)
    front = []
    fewest = machine.far
    many = 0
    # Each beat has a note, so more beats than that do not make the notes fewer.
    while many < fewest:
        if counts[0] < fewest:
            fewest = counts[0]
            front.append((many, fewest))
        counts = _longer_counts(machine, counts)
        many = many + 1
    return tuple(front)
