"""Hands that act as one, and pacts behind one another."""

from boundorvoid.climbs import leads_through
from boundorvoid.errors import InvalidRow, Refused
from boundorvoid.families import family_of, in_family
from boundorvoid.lots import orders_of, parts_of
from boundorvoid.pacts import Pact, above_mask, all_mask, hand_number, mask_lot, ready_note
from boundorvoid.parts import MOST_NOTES
from boundorvoid.reaches import asked_rows
from boundorvoid.values import is_lot_of
from boundorvoid.webs import mask_numbers


def need_groups(pact, value):
    """A value that is groups of the pact's hands, as it is."""
    fault = _groups_fault(pact, value)
    if fault is not None:
        raise InvalidRow(fault)
    return value


def _groups_fault(pact, value):
    """The first wrong place of any value that should be groups, its length if hands are missing; None for groups."""
    if not isinstance(value, tuple):
        return -1
    placed = []
    for at, thing in enumerate(value):
        if not is_lot_of(thing, pact.hands) or not thing:
            return at
        if at > 0 and not value[at - 1] < thing or any([hand in placed for hand in thing]):
            return at
        placed.extend(list(thing))
    return None if len(placed) == len(pact.hands) else len(value)


def _members(groups):
    """The groups under their names."""
    return {group[0]: group for group in groups}


def group_moments(pact, groups, hand, row):
    """What may be sent when each group of a row comes, though the one ahead has not gone on."""
    need_groups(pact, groups)
    masks = [_first_mask(pact, hand)]
    members = _members(groups)
    for name in row[:-1]:
        masks.append(_mask_past(pact, members[name], masks[-1]))
    return tuple([mask_lot(pact, mask) for mask in masks])


def _first_mask(pact, hand):
    """The bits of all notes under which a hand's ready note does not lie."""
    return all_mask(pact) & ~above_mask(pact, pact.note_numbers[ready_note(pact, hand)])


def _mask_past(pact, group, mask):
    """The bits of all notes under which no note of a group lies that a moment does not have."""
    behind = all_mask(pact)
    for hand in group:
        left = mask_numbers(pact.row_masks[pact.hand_numbers[hand]] & ~mask)
        # What lies above the hand's other notes lies above the first one, too.
        if left:
            behind = behind & ~above_mask(pact, left[0])
    return behind


def members_row(pact, groups, hand, row):
    """The least row of hands, one of each group of a row, that holds from a hand; None if none does."""
    need_groups(pact, groups)
    ready = ready_note(pact, hand)
    members = _members(groups)
    rows = [()]
    for name in row:
        rows = [ahead + (other,) for ahead in rows for other in members[name]]
    for found in rows:
        if leads_through(pact, ready, found):
            return found
    return None


def group_court(pact, groups, liars):
    """The first row of groups that a family of them asks and that does not hold, with a group; None if all hold."""
    need_groups(pact, groups)
    members = _members(groups)
    rows = asked_rows(tuple(members), liars, ())
    masks = {hand: _masks_along(pact, members, hand, rows) for hand in pact.hands}
    for row in rows:
        paper = pact.whole & _own_mask(pact, members[row[-1]])
        for name, group in members.items():
            if not all([paper & ~masks[hand][row[:-1]] for hand in group]):
                return name, row
    return None


def _own_mask(pact, group):
    """The bits of all notes of the hands of a group."""
    own = 0
    for hand in group:
        own = own | pact.row_masks[hand_number(pact, hand)]
    return own


def _masks_along(pact, members, hand, rows):
    """For each of some rows what may be sent behind it, from a hand; rows stand behind their first parts."""
    masks = {(): _first_mask(pact, hand)}
    for row in rows:
        masks[row] = _mask_past(pact, members[row[-1]], masks[row[:-1]])
    return masks


def merged_pact(pact, groups):
    """The pact in which each group is a hand."""
    need_groups(pact, groups)
    if len(groups) == 1:
        raise Refused("groups")
    names = {hand: group[0] for group in groups for hand in group}
    ready = []
    for group in groups:
        if not _are_chained(pact, mask_numbers(_own_mask(pact, group))):
            raise Refused("chain")
        ready.append(max([pact.note_numbers[ready_note(pact, hand)] for hand in group]))
    notes = [(name, names[hand], waits) for name, hand, waits in pact.notes]
    return Pact([group[0] for group in groups], notes, [pact.names[at] for at in ready], pact.paper)


def _are_chained(pact, numbers):
    """Whether each of some notes in told order lies under the one behind it."""
    return all([pact.unders[other] >> one & 1 for one, other in zip(numbers, numbers[1:])])


def pacts_behind(one, other):
    """The notes of one pact, and behind all of them those of another one, with this one's paper."""
    if one.hands != other.hands:
        raise Refused("hands")
    if any([name in one.note_numbers for name in other.names]):
        raise Refused("names")
    if len(one.notes) + len(other.notes) > MOST_NOTES:
        raise Refused("notes")
    notes = [(name, hand, tuple(sorted([*waits, *one.names]))) for name, hand, waits in other.notes]
    return Pact(one.hands, [*one.notes, *notes], one.ready, other.paper)


def sum_family(hands, one, other):
    """The family for which pacts behind one another are just if they are for one family each."""
    lots = [lot for lot in parts_of(hands) if all([_is_parted(order, one, other) for order in orders_of(lot)])]
    return family_of(lots)


def _is_parted(order, one, other):
    """Whether a row is a lot of one family, or one, a hand more, and then a lot of another one."""
    many = 0
    # The longest beginning leaves least for the other family.
    while many < len(order) and in_family(one, order[:many + 1]):
        many = many + 1
    return in_family(other, order[many + 1:])
