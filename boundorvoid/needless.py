"""Which notes and waits of a just pact can go."""

from boundorvoid.court import is_just
from boundorvoid.drafts import draft_of, is_draft_just, judged_by, owner_of, pact_of, without_note, without_wait
from boundorvoid.errors import Refused
from boundorvoid.families import all_lots, in_family, need_family
from boundorvoid.lots import without
from boundorvoid.pacts import Pact, hand_lot, key_level, lot_mask, mask_lot, note_number
from boundorvoid.parts import bits_of
from boundorvoid.reaches import highest_levels, ready_numbers, table_places
from boundorvoid.webs import bare_mask


def dropped_pact(pact, lot):
    """The pact without the notes of a lot."""
    for note in lot:
        note_number(pact, note)
    if any([note in pact.ready for note in lot]):
        raise Refused("ready")
    draft = draft_of(pact)
    for note in lot:
        draft = without_note(draft, note_number(pact, note))
    if not _have_paper(draft):
        raise Refused("paper")
    return pact_of(pact, draft)


def _have_paper(draft):
    """Whether each hand has a note of the whole paper."""
    return all([any([draft.whole >> at & 1 for at in row]) for row in draft.rows])


def loosened_pact(pact, note, wait):
    """The pact with a note that does not wait for one of its bare waits."""
    number = note_number(pact, note)
    ahead = note_number(pact, wait)
    draft = draft_of(pact)
    if not _bare_of(draft, number) >> ahead & 1:
        raise Refused("wait")
    return pact_of(pact, without_wait(draft, number, ahead))


def _bare_of(draft, number):
    """The bits of the bare waits of a note."""
    return bare_mask(draft.rows[owner_of(draft, number)], draft.unders, number)


def _need_just(pact, family):
    need_family(pact, family)
    if not is_just(pact, family):
        raise Refused("torn")


def thin_notes(pact, family):
    """The lot of the notes that are enough for a pact to be just."""
    _need_just(pact, family)
    return mask_lot(pact, _thin_mask(pact, _turning_numbers(pact, family)))


def _turning_numbers(pact, family):
    """For each lot of the family but that of all hands, and each hand of it, its note at the highest level."""
    hands = hand_lot(pact)
    lots = all_lots(family)
    levels = highest_levels(pact, ready_numbers(pact), table_places(hands, lots))
    return {(lot, hand): pact.rows[pact.hand_numbers[hand]][level] for (lot, hand), level in levels.items()
            if lot != hands and in_family(family, lot)}


def _key_numbers(pact):
    return [row[key_level(pact, at)] for at, row in enumerate(pact.rows)]


def _thin_mask(pact, turning):
    return bits_of([*ready_numbers(pact), *_key_numbers(pact), *list(turning.values())])


def bone_pact(pact, family):
    """The thin notes alone, told to wait for as little as keeps the pact just."""
    _need_just(pact, family)
    turning = _turning_numbers(pact, family)
    waits = _bone_waits(pact, family, turning)
    thin = _thin_mask(pact, turning)
    notes = []
    for at, (name, hand, _) in enumerate(pact.notes):
        if thin >> at & 1:
            notes.append((name, hand, mask_lot(pact, waits.get(at, 0) & ~(1 << at))))
    keys = [pact.names[at] for at in _key_numbers(pact)]
    return Pact(pact.hands, notes, pact.ready, tuple(sorted(keys)))


def _bone_waits(pact, family, turning):
    """The bits of what thin notes wait for; a note for several things waits for all of this."""
    ready = lot_mask(pact, pact.ready)
    waits = {}
    for (lot, hand), number in turning.items():
        rest = without(lot, hand)
        mask = bits_of([turning[(rest, other)] for other in rest]) if rest else ready
        waits[number] = waits.get(number, 0) | mask
    for hand, number in zip(pact.hands, _key_numbers(pact)):
        lots = [lot for lot in all_lots(family) if hand not in lot]
        mask = ready | bits_of([turning[(lot, other)] for lot in lots for other in lot])
        waits[number] = waits.get(number, 0) | mask
    return waits


def tight_fault(pact, family):
    """The first note that can go, or else the first bare wait of a note; None if nothing can."""
    _need_just(pact, family)
    judged = judged_by(pact, family)
    draft = draft_of(pact)
    for number, name in enumerate(pact.names):
        if _note_can_go(pact, draft, judged, number):
            return (name,)
    for number, name in enumerate(pact.names):
        wait = _wait_that_can_go(pact, draft, judged, number, {})
        if wait is not None:
            return name, pact.names[wait]
    return None


def _note_can_go(pact, draft, judged, number):
    """Whether the pact is just without a note."""
    if pact.names[number] in pact.ready:
        return False
    # If its hand has no other note of the paper, the pact is not just.
    return is_draft_just(without_note(draft, number), judged)


def _wait_that_can_go(pact, draft, judged, number, kept):
    """The first bare wait of a note without which the pact is just, or None; those that are kept are not tried."""
    bare = _bare_of(draft, number)
    for wait in pact.by_name:
        if bare >> wait & 1 and wait not in kept:
            if is_draft_just(without_wait(draft, number, wait), judged):
                return wait
            kept[wait] = True
    return None


def tight_pact(pact, family):
    """The pact from which all is taken out, one thing after another, that can go."""
    _need_just(pact, family)
    judged = judged_by(pact, family)
    draft = draft_of(pact)
    changed = False
    # What cannot go cannot go later either, so nothing ahead must be tried again.
    for number in range(len(pact.names)):
        if _note_can_go(pact, draft, judged, number):
            draft = without_note(draft, number)
            changed = True
    for number in sorted([at for row in draft.rows for at in row]):
        kept = {}
        wait = _wait_that_can_go(pact, draft, judged, number, kept)
        while wait is not None:
            draft = without_wait(draft, number, wait)
            changed = True
            wait = _wait_that_can_go(pact, draft, judged, number, kept)
    return pact_of(pact, draft) if changed else pact
