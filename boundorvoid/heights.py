"""How notes stand to one another along the rows of the hands."""

from boundorvoid.parts import joined_mask
from boundorvoid.pacts import hand_number, mask_lot, note_number


def closure_of(pact, lot):
    """All of a lot of notes: what lies under one of them."""
    return mask_lot(pact, joined_mask(pact.unders, [note_number(pact, note) for note in lot]))


def level_of(pact, note):
    """The number of a note in its row."""
    number = note_number(pact, note)
    owner = hand_number(pact, pact.notes[number][1])
    return pact.rows[owner].index(number)


def top_of(pact, hand):
    """How many notes a hand's row has."""
    return len(pact.rows[hand_number(pact, hand)])


def next_level(pact, hand, note):
    """The level of the hand's first note under which a note lies, or the top."""
    owner = hand_number(pact, hand)
    return pact.nexts[note_number(pact, note)][owner]


def next_note(pact, hand, note):
    """The hand's first note under which a note lies, or None."""
    row = pact.rows[hand_number(pact, hand)]
    level = next_level(pact, hand, note)
    if level == len(row):
        return None
    return pact.names[row[level]]


def last_note(pact, hand, note):
    """The hand's last note that lies under a note, or None."""
    row = pact.rows[hand_number(pact, hand)]
    many = _many_under(pact, row, note_number(pact, note))
    if many == 0:
        return None
    return pact.names[row[many - 1]]


def next_levels(pact, note):
    """The next level of each hand for a note, in the order of the hands."""
    return pact.nexts[note_number(pact, note)]


def clock_of(pact, note):
    """For each hand how many notes of its row lie under a note."""
    number = note_number(pact, note)
    return tuple([_many_under(pact, row, number) for row in pact.rows])


def clocks_of(pact):
    """For each hand the clocks of its row."""
    return tuple([tuple([clock_of(pact, pact.names[at]) for at in row]) for row in pact.rows])


def _many_under(pact, row, number):
    """How many notes of a row lie under the note with a number."""
    return len([at for at in row if pact.unders[number] >> at & 1])


def clock_fault(table):
    """The place of the first wrong clock of a table, or None."""
    earlier = []
    for h, row in enumerate(table):
        for i, clock in enumerate(row):
            if clock[h] != i + 1 or clock in earlier or _reaches_wrong(table, clock):
                return h, i
            earlier.append(clock)
    return None


def _reaches_wrong(table, clock):
    """Whether a clock counts notes that are not there, or below which more lies than it tells."""
    for row, many in zip(table, clock):
        if many > len(row):
            return True
        if any([_is_above(below, clock) for below in row[:many]]):
            return True
    return False


def _is_above(one, other):
    """Whether one clock is somewhere above another one."""
    return any([mine > yours for mine, yours in zip(one, other)])
