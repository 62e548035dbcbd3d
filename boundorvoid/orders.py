"""The least order of a pact's notes in which it is just if each note waits for all ahead."""

from boundorvoid.pacts import all_mask, hand_lot, lot_mask
from boundorvoid.parts import bits_of
from boundorvoid.reaches import ready_numbers
from boundorvoid.wants import Wants, wanted_behind
from boundorvoid.webs import mask_numbers, sendable
from boundorvoid.wishes import family_wishes


class Search:
    """What the search for an order goes by; lost keeps the states behind which there is none."""

    def __init__(self, pact, family):
        hands = hand_lot(pact)
        self.pact = pact
        self.wants = Wants(hands, family_wishes(hands, family))
        self.ready = bits_of(ready_numbers(pact))
        self.paper = lot_mask(pact, pact.paper)
        self.pairs = [_pairs_of(rest) for rest in self.wants.rests]
        self.lost = {}


def _pairs_of(row):
    """The pairs of hands of a row, the one ahead first."""
    return [(one, other) for at, one in enumerate(row) for other in row[at + 1:]]


def least_just_order(pact, family):
    """The least order of all notes in which the pact is just, as names; None if there is none."""
    search = Search(pact, family)
    numbers = _order_behind(search, 0, search.wants.first)
    return None if numbers is None else tuple([pact.names[at] for at in numbers])


def _order_behind(search, mask, wanted):
    """The least order of the notes that are not sent, if so much is wanted still; None if there is none."""
    if mask == all_mask(search.pact):
        return []
    if (mask, wanted) in search.lost:
        return None
    for at in sendable(search.pact.by_name, search.pact.unders, mask, all_mask(search.pact)):
        behind = mask | 1 << at
        left = _wanted_with(search, behind, wanted, at)
        if _can_go_on(search, behind, left):
            order = _order_behind(search, behind, left)
            if order is not None:
                return [at, *order]
    search.lost[(mask, wanted)] = True
    return None


def _wanted_with(search, mask, wanted, number):
    """What is wanted when a note has been sent; turns count from the last ready note on."""
    if search.ready & ~mask:
        return wanted
    return wanted_behind(search.wants, wanted, search.pact.notes[number][1])


def _can_go_on(search, mask, wanted):
    """Whether what is wanted may come before the last note of the paper is sent."""
    if not search.paper & ~mask:
        return wanted == 0
    # At best all notes that are left count.
    left = {}
    for at in mask_numbers(all_mask(search.pact) & ~mask):
        hand = search.pact.notes[at][1]
        left[hand] = left.get(hand, 0) + 1
    wishes = mask_numbers(wanted)
    if any([hand not in left for at in wishes for hand in search.wants.rests[at]]):
        return False
    return not _are_torn_apart(search, wishes, left)


def _are_torn_apart(search, wishes, left):
    """Whether two hands with one note each are wanted in both orders."""
    once = {}
    for at in wishes:
        for one, other in search.pairs[at]:
            if left[one] == 1 and left[other] == 1:
                once[(one, other)] = True
    return any([(other, one) in once for one, other in once])
