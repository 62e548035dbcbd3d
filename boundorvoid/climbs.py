"""Rows of hands, and what climbs along them from note to note."""

from boundorvoid.errors import InvalidRow
from boundorvoid.heights import last_note, next_note
from boundorvoid.pacts import above_mask, all_mask, hand_of, has_hand, has_note, key_note, lies_under, mask_lot
from boundorvoid.pacts import note_number, ready_note, under_of


def need_row(pact, value):
    """Refuse any value that is no row of one or more unlike hands."""
    fault = row_fault(pact, value)
    if fault is not None:
        raise InvalidRow(fault)


def row_fault(pact, value):
    """The first wrong place of any value that should be a row, -1 for none at all; None for a row."""
    if not isinstance(value, tuple) or not value:
        return -1
    for at, thing in enumerate(value):
        if not has_hand(pact, thing) or thing in value[:at]:
            return at
    return None


def climb_from(pact, note, row):
    """The next note of the row's first hand for a note, that of the second hand for this, and so on."""
    note_number(pact, note)
    need_row(pact, row)
    return _notes_above(pact, note, row)


def _notes_above(pact, note, row):
    found = []
    for hand in row:
        note = next_note(pact, hand, note)
        if note is None:
            break
        found.append(note)
    return tuple(found)


def climb(pact, hand, row):
    """The climb from a hand's ready note."""
    ready = ready_note(pact, hand)
    need_row(pact, row)
    return _notes_above(pact, ready, row)


def row_holds(pact, hand, row):
    """Whether the climb is whole and ends in the whole paper of the last hand."""
    ready = ready_note(pact, hand)
    need_row(pact, row)
    return leads_through(pact, ready, row)


def leads_through(pact, note, row):
    """Whether the climb from a note is whole and ends in the whole paper of the row's last hand."""
    notes = _notes_above(pact, note, row)
    return len(notes) == len(row) and lies_under(pact, notes[-1], key_note(pact, row[-1]))


def ladder_holds(pact, hand, row, value):
    """Whether any value is a ladder of a row from a hand."""
    ahead = ready_note(pact, hand)
    need_row(pact, row)
    if not isinstance(value, tuple) or len(value) != len(row):
        return False
    for owner, note in zip(row, value):
        if not has_note(pact, note) or hand_of(pact, note) != owner or not lies_under(pact, ahead, note):
            return False
        ahead = note
    return lies_under(pact, ahead, key_note(pact, row[-1]))


def descent(pact, row):
    """From the key note of the last hand down: each time the last note of the hand ahead that lies under it."""
    need_row(pact, row)
    notes = [key_note(pact, row[-1])]
    for hand in reversed(row[:-1]):
        below = last_note(pact, hand, notes[-1])
        if below is None:
            return None
        notes.append(below)
    return tuple(notes[::-1])


def row_starts(pact, row):
    """The lot of the notes from which the row can be climbed, within the whole paper of its last hand."""
    notes = descent(pact, row)
    if notes is None:
        return ()
    return under_of(pact, notes[0])


def row_moments(pact, hand, row):
    """What may be sent when each hand of the row comes, though the one ahead has not gone on."""
    notes = (ready_note(pact, hand), *climb(pact, hand, row))
    return tuple([not_above(pact, note) for note in notes[:len(row)]])


def not_above(pact, note):
    """The lot of all notes under which a note does not lie."""
    return mask_lot(pact, all_mask(pact) & ~above_mask(pact, note_number(pact, note)))
