"""The ways to tell a pact: bare and full forms, other orders, and notes from clocks."""

from boundorvoid.heights import clock_fault
from boundorvoid.moments import need_order
from boundorvoid.pacts import Pact, all_mask, hand_number, mask_lot, note_number, under_of, whole_paper
from boundorvoid.webs import bare_mask, bare_notes, least_numbers, mask_numbers, top_mask


def bare_waits(pact, note):
    """The lot of notes that a note must be told to wait for, so that all stays as it is."""
    return mask_lot(pact, _bare_mask_of(pact, note_number(pact, note)))


def _bare_mask_of(pact, number):
    row = pact.rows[hand_number(pact, pact.notes[number][1])]
    return bare_mask(row, pact.unders, number)


def bare_paper(pact):
    """The lot of notes of the whole paper that lie under no other one of it."""
    return mask_lot(pact, top_mask(pact.unders, pact.whole))


def least_order(pact):
    """All notes in the order that has the least name at each place."""
    return tuple([pact.names[at] for at in least_numbers(pact.by_name, pact.unders)])


def bare_form(pact):
    """The pact in its least order, told with as little as can be."""
    notes = bare_notes(pact.hands, pact.rows, pact.names, pact.unders)
    return Pact(pact.hands, notes, pact.ready, bare_paper(pact))


def full_form(pact):
    """The pact in its least order, told with all that holds."""
    notes = []
    for name in least_order(pact):
        number = note_number(pact, name)
        waits = mask_lot(pact, pact.unders[number] & ~(1 << number))
        notes.append((name, pact.notes[number][1], waits))
    return Pact(pact.hands, notes, pact.ready, whole_paper(pact))


def same_web(one, other):
    """Whether two pacts differ at most in how they are told."""
    if one.hands != other.hands or one.ready != other.ready or whole_paper(one) != whole_paper(other):
        return False
    return _web_of(one) == _web_of(other)


def _web_of(pact):
    """The notes by their names, each with its hand and what lies under it."""
    return sorted([(note[0], note[1], under_of(pact, note[0])) for note in pact.notes])


def telling_count(pact):
    """In how many ways waits and paper can be told, in the same order."""
    many = _lots_between(top_mask(pact.unders, pact.whole), pact.whole)
    for number, mask in enumerate(pact.unders):
        many = many * _lots_between(_bare_mask_of(pact, number), mask & ~(1 << number))
    return many


def _lots_between(least, greatest):
    """How many masks have all of the least and lie within the greatest."""
    return 1 << len(mask_numbers(greatest & ~least))


def retold_pact(pact, order):
    """The pact with its notes told in another order, with the same waits."""
    need_order(pact, order, all_mask(pact))
    notes = [pact.notes[pact.note_numbers[name]] for name in order]
    return Pact(pact.hands, notes, pact.ready, pact.paper)


def clocked_notes(hands, rows, table):
    """The notes, in bare form, of the pacts with these rows and clocks; None if the table has a fault."""
    # The table may come as lists here, and clocks are compared with one another.
    told = [[tuple(clock) for clock in clocks] for clocks in table]
    if clock_fault(told) is not None:
        return None
    names = [name for row in rows for name in row]
    numbers = _numbered_rows(rows)
    unders = [_clock_mask(numbers, clock) for clocks in told for clock in clocks]
    return bare_notes(hands, numbers, names, unders)


def _numbered_rows(rows):
    """The rows with their notes numbered one row behind another."""
    numbered = []
    many = 0
    for row in rows:
        numbered.append(list(range(many, many + len(row))))
        many = many + len(row)
    return numbered


def _clock_mask(rows, clock):
    """The bits of the notes that a clock counts."""
    mask = 0
    for row, many in zip(rows, clock):
        for at in row[:many]:
            mask = mask | 1 << at
    return mask
