"""Pacts: hands, notes that wait for one another, ready notes and a paper."""

from boundorvoid.errors import InvalidPact, NoName
from boundorvoid.parts import FEWEST_NOTES, MOST_NOTES, are_hands, are_ready, is_note, is_paper
from boundorvoid.parts import bits_of, joined_mask, next_table, rows_by_hand, under_masks
from boundorvoid.values import is_known, is_sequence


class Pact:
    """A pact. Beside what it is told with it keeps what follows from this, with notes and hands as numbers.

    Lots of notes are kept there as masks: numbers whose bits stand for the notes in told order.
    """

    def __init__(self, hands, notes, ready, paper):
        _need_parts(hands, notes, ready, paper)
        self.hands = tuple(hands)
        self.notes = tuple(notes)
        self.ready = tuple(ready)
        self.paper = paper
        self.names = tuple([note[0] for note in self.notes])
        self.note_numbers = {name: at for at, name in enumerate(self.names)}
        self.hand_numbers = {hand: at for at, hand in enumerate(self.hands)}
        self.rows = rows_by_hand(self.hands, self.notes)
        self.row_masks = tuple([sum([1 << at for at in row]) for row in self.rows])
        self.unders = under_masks(self.notes)
        self.nexts = next_table(self.rows, self.unders)
        self.whole = joined_mask(self.unders, [self.note_numbers[name] for name in self.paper])
        self.by_name = tuple([self.note_numbers[name] for name in sorted(self.names)])

    def __eq__(self, other):
        return (isinstance(other, Pact) and self.hands == other.hands and self.notes == other.notes
                and self.ready == other.ready and self.paper == other.paper)


def _need_parts(hands, notes, ready, paper):
    if not are_hands(hands):
        raise InvalidPact("hands")
    if not is_sequence(notes) or not FEWEST_NOTES <= len(notes) <= MOST_NOTES:
        raise InvalidPact("notes")
    owners = {}
    for at, note in enumerate(notes):
        if not is_note(note, hands, owners):
            raise InvalidPact(at)
        owners[note[0]] = note[1]
    if not are_ready(ready, hands, owners):
        raise InvalidPact("ready")
    if not is_paper(paper, hands, notes):
        raise InvalidPact("paper")


def has_hand(pact, value):
    """Whether any value is one of the hands."""
    return is_known(value, pact.hand_numbers)


def has_note(pact, value):
    """Whether any value is the name of a note."""
    return is_known(value, pact.note_numbers)


def hand_lot(pact):
    """The lot of the hands."""
    return tuple(sorted(pact.hands))


def hand_number(pact, hand):
    """The number of a hand."""
    if hand not in pact.hand_numbers:
        raise NoName(hand)
    return pact.hand_numbers[hand]


def note_number(pact, note):
    """The number of a note."""
    if note not in pact.note_numbers:
        raise NoName(note)
    return pact.note_numbers[note]


def need_hands(pact, lot):
    """Refuse a lot of names one of which is no hand's."""
    for name in lot:
        hand_number(pact, name)


def lot_mask(pact, lot):
    """The bits of a lot of notes."""
    mask = 0
    for note in lot:
        mask = mask | 1 << note_number(pact, note)
    return mask


def all_mask(pact):
    """The bits of all notes."""
    return (1 << len(pact.names)) - 1


def above_mask(pact, number):
    """The bits of the notes under which the note with a number lies."""
    mask = 0
    for row, level in zip(pact.rows, pact.nexts[number]):
        mask = mask | bits_of(row[level:])
    return mask


def mask_lot(pact, mask):
    """The lot of the notes whose bits a mask has."""
    return tuple([pact.names[at] for at in pact.by_name if mask >> at & 1])


def mask_told(pact, mask):
    """The notes whose bits a mask has, in told order."""
    return tuple([name for at, name in enumerate(pact.names) if mask >> at & 1])


def key_level(pact, number):
    """The level of the key note of the hand with a number."""
    return len([at for at in pact.rows[number] if pact.whole >> at & 1]) - 1


def hand_of(pact, note):
    """The hand that sends a note."""
    return pact.notes[note_number(pact, note)][1]


def notes_of(pact, hand):
    """The names of a hand's notes, as told."""
    return tuple([pact.names[at] for at in pact.rows[hand_number(pact, hand)]])


def lies_under(pact, one, other):
    """Whether one note lies under another one."""
    number = note_number(pact, one)
    return pact.unders[note_number(pact, other)] >> number & 1 == 1


def under_of(pact, note):
    """The lot of all notes that lie under a note, with itself."""
    return mask_lot(pact, pact.unders[note_number(pact, note)])


def whole_paper(pact):
    """All of the paper."""
    return mask_lot(pact, pact.whole)


def key_note(pact, hand):
    """A hand's last note in the whole paper."""
    number = hand_number(pact, hand)
    return pact.names[pact.rows[number][key_level(pact, number)]]


def ready_note(pact, hand):
    """A hand's ready note."""
    return pact.ready[hand_number(pact, hand)]
