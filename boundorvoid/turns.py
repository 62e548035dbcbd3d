"""Rows of turns: hands who write one behind another, each note waiting for all ahead."""

from boundorvoid.errors import InvalidRow, Refused
from boundorvoid.pacts import Pact
from boundorvoid.parts import MOST_NOTES
from boundorvoid.reaches import asked_rows
from boundorvoid.values import LETTERS, is_known


def turns_pact(hands, turns):
    """The pact of some hands who write by turns."""
    fault = turns_fault(hands, turns)
    if fault is not None:
        raise InvalidRow(fault)
    if stretch_start(hands, turns) is None:
        raise Refused("begun")
    if len(turns) > MOST_NOTES:
        raise Refused("turns")
    notes = []
    for at, hand in enumerate(turns):
        notes.append((note_name(at), hand, (note_name(at - 1),) if at > 0 else ()))
    ready = [note_name(turns.index(hand)) for hand in hands]
    return Pact(hands, notes, ready, (notes[-1][0],))


def turns_fault(hands, value):
    """The first wrong place of any value that should be turns, -1 for what is no tuple; None for turns."""
    if not isinstance(value, tuple):
        return -1
    for at, thing in enumerate(value):
        if not is_known(thing, hands):
            return at
    return None


def note_name(number):
    """The name with a number among aa, ab, .., az, ba and so on."""
    many = len(LETTERS)
    return LETTERS[number // many] + LETTERS[number % many]


def stretch_start(hands, turns):
    """The number of the turn by which each hand has come; None if some hand does not."""
    if not all([hand in turns for hand in hands]):
        return None
    return max([turns.index(hand) for hand in hands])


def pact_turns(pact):
    """The hands of the notes of a pact that has them all in a row, its last ready note, how long the whole paper is."""
    for at, mask in enumerate(pact.unders):
        # All ahead must lie under each note.
        if mask != (1 << at + 1) - 1:
            return None
    turns = tuple([hand for _, hand, _ in pact.notes])
    return turns, max([pact.note_numbers[name] for name in pact.ready]), pact.whole.bit_length()


def lined_pact(pact):
    """The pact with each note told to wait for the one told just ahead of it."""
    notes = []
    for at, (name, hand, _) in enumerate(pact.notes):
        notes.append((name, hand, (pact.names[at - 1],) if at > 0 else ()))
    return Pact(pact.hands, notes, pact.ready, pact.paper)


def part_places(turns, part):
    """The least places at which a part is found in some turns; None if it is no part."""
    places = []
    for at, turn in enumerate(turns):
        if len(places) < len(part) and turn == part[len(places)]:
            places.append(at)
    return tuple(places) if len(places) == len(part) else None


def many_found(turns, part):
    """How many hands the longest beginning of a row has that is a part of some turns."""
    many = 0
    for turn in turns:
        if many < len(part) and turn == part[many]:
            many = many + 1
    return many


def is_part(part, turns):
    """Whether a row is a part of some turns."""
    return many_found(turns, part) == len(part)


def turns_lack(hands, family, turns):
    """The first row that a family asks and that turns do not have behind all have come; None if they are just."""
    start = stretch_start(hands, turns)
    if start is None:
        return ()
    stretch = turns[start:]
    for row in asked_rows(hands, family, ()):
        if not is_part(row, stretch):
            return row
    return None
