"""The court: whether some notary wrongs nobody honest, whoever of a family lies."""

from boundorvoid.climbs import row_fault, row_holds, row_starts
from boundorvoid.errors import NoName
from boundorvoid.families import all_lots, in_family, need_family
from boundorvoid.heights import closure_of
from boundorvoid.lots import with_name, without
from boundorvoid.pacts import all_mask, hand_number, has_hand, key_level, lot_mask, mask_lot, notes_of
from boundorvoid.values import is_integer


class Just:
    """The pact is just for the family; the table shows it."""

    def __init__(self, table):
        self.table = table

    def __eq__(self, other):
        return isinstance(other, Just) and self.table == other.table


class Torn:
    """The pact is torn for the family; the row, which fails from the hand, shows it."""

    def __init__(self, hand, row):
        self.hand = hand
        self.row = row

    def __eq__(self, other):
        return isinstance(other, Torn) and self.hand == other.hand and self.row == other.row


def court_rows(pact, family):
    """All rows that a family asks, those of fewer hands first, then ascending."""
    need_family(pact, family)
    hands = sorted(pact.hands)
    rows = []
    heads = [()]
    while heads:
        longer = [head + (hand,) for head in heads for hand in hands if hand not in head]
        rows.extend(longer)
        # A row can have hands behind it only if its own may lie together.
        heads = [row for row in longer if in_family(family, row)]
    return tuple(rows)


def highest_level(pact, lot, hand):
    """The greatest level of a hand to which climbs come by rows of all of a lot with this hand last."""
    for name in lot:
        hand_number(pact, name)
    if hand not in lot:
        raise NoName(hand)
    return _highest_levels(pact, (without(lot, hand),))[(lot, hand)]


def _highest_levels(pact, family):
    """The highest level for each lot with a hand that a lot of the family lacks, and that hand, in court's order."""
    levels = {}
    for lot, hand in _table_places(pact, family):
        levels[(with_name(lot, hand), hand)] = _level_above(pact, levels, lot, hand)
    return levels


def _table_places(pact, family):
    """The lots of a family, each with each hand that it lacks."""
    hands = sorted(pact.hands)
    return [(lot, hand) for lot in all_lots(family) for hand in hands if hand not in lot]


def _level_above(pact, levels, lot, hand):
    """The greatest next level of a hand for the ready notes, or for the notes of a lot at their levels in it."""
    number = pact.hand_numbers[hand]
    top = len(pact.rows[number])
    if not lot:
        return max([pact.nexts[pact.note_numbers[name]][number] for name in pact.ready])
    found = []
    for other in lot:
        row = pact.rows[pact.hand_numbers[other]]
        level = levels[(lot, other)]
        found.append(pact.nexts[row[level]][number] if level < len(row) else top)
    return max(found)


def court_table(pact, family):
    """The highest levels for the lots of a family: triples of a lot with a hand more, this hand, its level."""
    need_family(pact, family)
    return tuple([(lot, hand, level) for (lot, hand), level in _highest_levels(pact, family).items()])


def court(pact, family):
    """What the court finds: a table that shows the pact just for the family, or the first row that fails."""
    table = court_table(pact, family)
    # A level above that of a key note is just what a failing row comes to.
    if all([level <= key_level(pact, pact.hand_numbers[hand]) for _, hand, level in table]):
        return Just(table)
    return _first_torn(pact, court_rows(pact, family))


def _first_torn(pact, rows):
    """The first of some rows, one of which fails, with the least hand from which it does."""
    for row in rows:
        for hand in sorted(pact.hands):
            if not row_holds(pact, hand, row):
                return Torn(hand, row)


def check_court(pact, family, value):
    """Whether any value shows that the pact is just, or torn, for the family."""
    need_family(pact, family)
    if isinstance(value, Torn):
        return _shows_torn(pact, family, value.hand, value.row)
    if isinstance(value, Just):
        return _shows_just(pact, family, value.table)
    return False


def _shows_torn(pact, family, hand, row):
    """Whether any values are a hand and a row that the family asks and that fails from it."""
    if not has_hand(pact, hand) or row_fault(pact, row) is not None:
        return False
    return in_family(family, row[:-1]) and not row_holds(pact, hand, row)


def _shows_just(pact, family, table):
    """Whether any value is a table of levels none of which is too high, or too low for those ahead of it."""
    places = _table_places(pact, family)
    if not isinstance(table, tuple) or len(table) != len(places):
        return False
    levels = {}
    for (lot, hand), thing in zip(places, table):
        place = (with_name(lot, hand), hand)
        if not isinstance(thing, tuple) or len(thing) != 3 or thing[:2] != place or not is_integer(thing[2]):
            return False
        least = _level_above(pact, levels, lot, hand)
        if not least <= thing[2] <= key_level(pact, pact.hand_numbers[hand]):
            return False
        levels[place] = thing[2]
    return True


def safe_notes(pact, family):
    """The lot of the notes from which each row that the family asks can be climbed."""
    rows = court_rows(pact, family)
    mask = all_mask(pact)
    for row in rows:
        mask = mask & lot_mask(pact, row_starts(pact, row))
    return mask_lot(pact, mask)


def least_paper(pact, family):
    """The least whole paper with which the pact is just for the family; None if there is none."""
    levels = {hand: 0 for hand in pact.hands}
    for _, hand, level in court_table(pact, family):
        levels[hand] = max(levels[hand], level)
    notes = []
    for hand, level in levels.items():
        row = notes_of(pact, hand)
        if level == len(row):
            return None
        notes.append(row[level])
    return closure_of(pact, notes)
