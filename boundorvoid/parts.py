"""What the parts of a pact must be like, and what lies under what by its notes."""

from boundorvoid.values import is_known, is_lot_of, is_name, is_sequence

FEWEST_HANDS = 2
MOST_HANDS = 6
FEWEST_NOTES = 2
MOST_NOTES = 40


def are_hands(value):
    """Whether a value is a sequence of 2 to 6 unlike names."""
    if not is_sequence(value) or not FEWEST_HANDS <= len(value) <= MOST_HANDS:
        return False
    if not all([is_name(name) for name in value]):
        return False
    return len(set(value)) == len(value)


def is_note(value, hands, owners):
    """Whether a value can be told as the next note; owners leads the notes so far to their hands."""
    if not isinstance(value, tuple) or len(value) != 3:
        return False
    name, hand, waits = value
    if not is_name(name) or name in owners:
        return False
    return is_known(hand, hands) and is_lot_of(waits, owners)


def are_ready(value, hands, owners):
    """Whether a value is a sequence of one own note of each hand, in the order of the hands."""
    if not is_sequence(value) or len(value) != len(hands):
        return False
    return all([is_known(name, owners) and owners[name] == hand for name, hand in zip(value, hands)])


def is_paper(value, hands, notes):
    """Whether a value is a lot of notes such that each hand has a note in all of it."""
    numbers = {note[0]: at for at, note in enumerate(notes)}
    if not is_lot_of(value, numbers):
        return False
    whole = joined_mask(under_masks(notes), [numbers[name] for name in value])
    writers = [note[1] for at, note in enumerate(notes) if whole >> at & 1]
    return all([hand in writers for hand in hands])


def under_masks(notes):
    """For each note a number whose bits tell which notes lie under it."""
    numbers = {}
    newest = {}
    masks = []
    for at, (name, hand, waits) in enumerate(notes):
        waited = [numbers[wait] for wait in waits]
        if hand in newest:
            waited.append(newest[hand])
        masks.append(1 << at | joined_mask(masks, waited))
        numbers[name] = at
        newest[hand] = at
    return tuple(masks)


def joined_mask(masks, numbers):
    """The bits that some of the numbered masks have."""
    joined = 0
    for number in numbers:
        joined = joined | masks[number]
    return joined


def bits_of(numbers):
    """The mask that has the bits with these numbers."""
    mask = 0
    for number in numbers:
        mask = mask | 1 << number
    return mask


def rows_by_hand(hands, notes):
    """For each hand the numbers of its notes, as told."""
    return tuple([tuple([at for at, note in enumerate(notes) if note[1] == hand]) for hand in hands])


def next_table(rows, masks):
    """For each note, and each hand's row, the level of the first note there that lies above it, or the top."""
    return tuple([tuple([first_above(row, masks, at) for row in rows]) for at in range(len(masks))])


def first_above(row, masks, number):
    """The level of the first note of a row under which a note lies; the top if there is none."""
    for level, at in enumerate(row):
        if masks[at] >> number & 1:
            return level
    return len(row)
