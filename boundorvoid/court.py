"""The court: whether some notary wrongs nobody honest, whoever of a family lies."""

from boundorvoid.climbs import row_fault, row_holds, row_starts
from boundorvoid.errors import NoName
from boundorvoid.families import all_lots, in_family, need_family
from boundorvoid.heights import closure_of
from boundorvoid.lots import without
from boundorvoid.pacts import all_mask, hand_lot, has_hand, lot_mask, mask_lot, need_hands, notes_of
from boundorvoid.reaches import are_in_paper, are_levels, asked_rows, highest_levels, levels_table, ready_numbers
from boundorvoid.reaches import table_places


class Just:
    """The pact is just for the family; the table shows it."""

    def __init__(self, table):
        self.table = table

    def __eq__(self, other):
        return isinstance(other, Just) and self.table == other.table


class Torn:
    """The pact is torn for the family; the row, which fails from the hand, shows it."""

    def __init__(self, hand, row):
        self.hand = hand
        self.row = row

    def __eq__(self, other):
        return isinstance(other, Torn) and self.hand == other.hand and self.row == other.row


def court_rows(pact, family):
    """All rows that a family asks, those of fewer hands first, then ascending."""
    need_family(pact, family)
    return tuple(asked_rows(hand_lot(pact), family, ()))


def highest_level(pact, lot, hand):
    """The greatest level of a hand to which climbs come by rows of all of a lot with this hand last."""
    need_hands(pact, lot)
    if hand not in lot:
        raise NoName(hand)
    return _court_levels(pact, (without(lot, hand),))[(lot, hand)]


def _court_levels(pact, family):
    """The highest level for each lot with a hand that a lot of the family lacks, and that hand, in court's order."""
    return highest_levels(pact, ready_numbers(pact), _court_places(pact, family))


def _court_places(pact, family):
    return table_places(hand_lot(pact), all_lots(family))


def court_table(pact, family):
    """The highest levels for the lots of a family: triples of a lot with a hand more, this hand, its level."""
    need_family(pact, family)
    return levels_table(_court_levels(pact, family))


def court(pact, family):
    """What the court finds: a table that shows the pact just for the family, or the first row that fails."""
    need_family(pact, family)
    levels = _court_levels(pact, family)
    if are_in_paper(pact, levels):
        return Just(levels_table(levels))
    return _first_torn(pact, court_rows(pact, family))


def is_just(pact, family):
    """Whether the pact is just for a family, of which nothing is checked."""
    return are_in_paper(pact, _court_levels(pact, family))


def _first_torn(pact, rows):
    """The first of some rows, one of which fails, with the least hand from which it does."""
    for row in rows:
        for hand in sorted(pact.hands):
            if not row_holds(pact, hand, row):
                return Torn(hand, row)


def check_court(pact, family, value):
    """Whether any value shows that the pact is just, or torn, for the family."""
    need_family(pact, family)
    if isinstance(value, Torn):
        return _shows_torn(pact, family, value.hand, value.row)
    if isinstance(value, Just):
        return are_levels(pact, ready_numbers(pact), _court_places(pact, family), value.table)
    return False


def _shows_torn(pact, family, hand, row):
    """Whether any values are a hand and a row that the family asks and that fails from it."""
    if not has_hand(pact, hand) or row_fault(pact, row) is not None:
        return False
    return in_family(family, row[:-1]) and not row_holds(pact, hand, row)


def safe_notes(pact, family):
    """The lot of the notes from which each row that the family asks can be climbed."""
    rows = court_rows(pact, family)
    mask = all_mask(pact)
    for row in rows:
        mask = mask & lot_mask(pact, row_starts(pact, row))
    return mask_lot(pact, mask)


def least_paper(pact, family):
    """The least whole paper with which the pact is just for the family; None if there is none."""
    levels = {hand: 0 for hand in pact.hands}
    for _, hand, level in court_table(pact, family):
        levels[hand] = max(levels[hand], level)
    notes = []
    for hand, level in levels.items():
        row = notes_of(pact, hand)
        if level == len(row):
            return None
        notes.append(row[level])
    return closure_of(pact, notes)
