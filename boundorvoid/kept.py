"""Whom a notary can keep from being wronged, if not all hands."""

from boundorvoid.court import Torn
from boundorvoid.climbs import row_holds
from boundorvoid.errors import InvalidSize
from boundorvoid.families import family_of, in_family, need_family
from boundorvoid.lots import parts_of, sized_order, with_name, without
from boundorvoid.pacts import Pact, hand_lot, lot_mask, mask_lot, need_hands
from boundorvoid.reaches import are_in_paper, asked_rows, highest_levels, table_places
from boundorvoid.rules import need_ask, unready_hands, unshown_hands
from boundorvoid.runs import BOUND, VOID, first_bound, shown_mask, told_answer
from boundorvoid.values import LETTERS

FEWEST_CUT = 2


def torn_in(pact, family, lot):
    """The first row of hands of a lot that the family asks and that fails from one of them, with the least such one."""
    need_family(pact, family)
    need_hands(pact, lot)
    if _is_kept(pact, family, lot):
        return None
    for row in asked_rows(lot, family, ()):
        for hand in lot:
            if not row_holds(pact, hand, row):
                return Torn(hand, row)


def _is_kept(pact, family, lot):
    """Whether no row of hands of a lot that the family asks fails from one of them."""
    starts = [pact.note_numbers[pact.ready[pact.hand_numbers[hand]]] for hand in lot]
    parts = [part for part in parts_of(lot) if in_family(family, part)]
    return are_in_paper(pact, highest_levels(pact, starts, table_places(lot, parts)))


def keeping_answer(pact, lot, history, hand, moment):
    """What a rule answers that keeps a lot, where one does."""
    need_hands(pact, lot)
    need_ask(pact, history, hand, moment)
    told = told_answer(history, hand)
    if told is not None:
        return told
    if first_bound(history) is not None:
        return BOUND
    if hand not in lot:
        return VOID
    own = [entry for entry in history if entry[0] in lot]
    seen = shown_mask(pact, own) | lot_mask(pact, moment)
    missed = [other for other in unready_hands(pact, seen) if other in lot]
    return VOID if missed or unshown_hands(pact, own, seen) else BOUND


def cut_pact(pact, lot):
    """The pact of the hands of a lot alone."""
    need_hands(pact, lot)
    if len(lot) < FEWEST_CUT:
        raise InvalidSize("lot")
    mask = 0
    for hand in lot:
        mask = mask | pact.row_masks[pact.hand_numbers[hand]]
    notes = []
    for at, (name, hand, _) in enumerate(pact.notes):
        if hand in lot:
            notes.append((name, hand, mask_lot(pact, pact.unders[at] & mask & ~(1 << at))))
    hands = [hand for hand in pact.hands if hand in lot]
    ready = [note for hand, note in zip(pact.hands, pact.ready) if hand in lot]
    return Pact(hands, notes, ready, mask_lot(pact, pact.whole & mask))


def cut_family(lot, family):
    """The family whose lots are what a family's lots have in common with a lot."""
    return family_of([tuple([hand for hand in told if hand in lot]) for told in family])


def _kept_table(pact, family):
    """For each lot of hands whether it is kept, those of fewer hands first."""
    kept = {}
    for lot in parts_of(hand_lot(pact)):
        # A part of a kept lot is kept.
        kept[lot] = all([kept[without(lot, hand)] for hand in lot]) and _is_kept(pact, family, lot)
    return kept


def kept_lots(pact, family):
    """The kept lots that are not kept with any hand more."""
    need_family(pact, family)
    return tuple(_greatest_kept(pact, family))


def _greatest_kept(pact, family):
    kept = _kept_table(pact, family)
    hands = hand_lot(pact)
    return [lot for lot in kept if kept[lot] and not any(
        [kept[with_name(lot, hand)] for hand in hands if hand not in lot])]


def least_unkept(pact, family):
    """The lots that are not kept, but are with any one hand left out."""
    need_family(pact, family)
    kept = _kept_table(pact, family)
    return tuple([lot for lot in kept if not kept[lot] and all([kept[without(lot, hand)] for hand in lot])])


def spared_lots(pact, family):
    """The lots without which all other hands are kept, but with no hand fewer."""
    need_family(pact, family)
    lots = _greatest_kept(pact, family)
    return tuple(sized_order([tuple([hand for hand in hand_lot(pact) if hand not in lot]) for lot in lots]))


def kept_family(pact, lot):
    """The greatest family for which a lot is kept; None if it is for none."""
    need_hands(pact, lot)
    others = [hand for hand in pact.hands if hand not in lot]
    free = [part for part in parts_of(lot) if _is_kept(pact, (part,), lot)]
    if not free:
        return None
    # Hands outside the lot that lie neither harm nor help.
    return family_of([tuple(sorted([*part, *others])) for part in free])


def keeping_pairs(pact):
    """The pairs of liars and of those kept from them to neither of which a hand can be put, ascending."""
    hands = hand_lot(pact)
    families = {lot: kept_family(pact, lot) for lot in parts_of(hands)}
    found = []
    for lot, family in families.items():
        for liars in family or ():
            wider = [families[with_name(lot, hand)] for hand in hands if hand not in lot]
            if not any([other is not None and in_family(other, liars) for other in wider]):
                found.append((liars, lot))
    return tuple(sorted(found))


def share_pact(hands, pairs):
    """Some pact of these hands of whom, if nobody lies, just those lots are kept any two of whom are a pair."""
    told = tuple(hands)
    notes = [(LETTERS[at], hand, ()) for at, hand in enumerate(told)]
    for at, hand in enumerate(told):
        waits = [LETTERS[k] for k, other in enumerate(told) if tuple(sorted([hand, other])) in pairs]
        notes.append((LETTERS[len(told) + at], hand, tuple(waits)))
    ready = [note[0] for note in notes[:len(told)]]
    paper = [note[0] for note in notes[len(told):]]
    return Pact(told, notes, ready, tuple(paper))
