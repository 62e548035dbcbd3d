"""Pacts on the way to others: what the court goes by, changed by one note or one wait."""

from boundorvoid.families import all_lots
from boundorvoid.pacts import Pact, hand_lot, mask_lot
from boundorvoid.reaches import are_in_paper, highest_levels, ready_numbers, table_places


class Draft:
    """The numbers of a pact's notes by hands, and what lies under and next above each; it is read as a pact is."""

    def __init__(self, hand_numbers, rows, unders, nexts, whole):
        self.hand_numbers = hand_numbers
        self.rows = rows
        self.unders = unders
        self.nexts = nexts
        self.whole = whole


def draft_of(pact):
    """A pact as a draft, its notes by their numbers."""
    return Draft(pact.hand_numbers, pact.rows, pact.unders, pact.nexts, pact.whole)


def judged_by(pact, family):
    """What tells whether drafts of a pact are just for a family: the ready notes, and the places of the court."""
    return ready_numbers(pact), table_places(hand_lot(pact), all_lots(family))


def is_draft_just(draft, judged):
    """Whether a draft is just."""
    starts, places = judged
    return are_in_paper(draft, highest_levels(draft, starts, places))


def owner_of(draft, number):
    """The number of the hand of a note."""
    return [owner for owner, row in enumerate(draft.rows) if number in row][0]


def without_note(draft, number):
    """A draft without a note."""
    owner = owner_of(draft, number)
    level = draft.rows[owner].index(number)
    rows = [[at for at in row if at != number] for row in draft.rows]
    nexts = []
    for levels in draft.nexts:
        # What was next is now the note behind, which has the same level.
        lower = levels[owner] - 1 if levels[owner] > level else levels[owner]
        nexts.append([*levels[:owner], lower, *levels[owner + 1:]])
    unders = [mask & ~(1 << number) for mask in draft.unders]
    return Draft(draft.hand_numbers, rows, unders, nexts, draft.whole & ~(1 << number))


def without_wait(draft, number, wait):
    """A draft in which a note does not wait for one of its bare waits."""
    owner = owner_of(draft, number)
    unders = list(draft.unders)
    unders[number] = unders[number] & ~(1 << wait)
    nexts = list(draft.nexts)
    # No own note ahead lies above a bare wait, so this note was the next one.
    level = draft.rows[owner].index(number) + 1
    nexts[wait] = [*nexts[wait][:owner], level, *nexts[wait][owner + 1:]]
    return Draft(draft.hand_numbers, draft.rows, unders, nexts, draft.whole)


def with_wait(draft, number, wait):
    """A draft in which a note waits for one more, which it does not lie under."""
    below = draft.unders[wait]
    unders = [mask | below if mask >> number & 1 else mask for mask in draft.unders]
    nexts = []
    for at, levels in enumerate(draft.nexts):
        if below >> at & 1:
            nexts.append([min(mine, yours) for mine, yours in zip(levels, draft.nexts[number])])
        else:
            nexts.append(levels)
    whole = draft.whole | below if draft.whole >> number & 1 else draft.whole
    return Draft(draft.hand_numbers, draft.rows, unders, nexts, whole)


def pact_of(pact, draft):
    """The pact of a draft, its notes in the order of the pact, told with all that lies under them."""
    left = sorted([at for row in draft.rows for at in row])
    notes = []
    for at in left:
        name, hand, _ = pact.notes[at]
        notes.append((name, hand, mask_lot(pact, draft.unders[at] & ~(1 << at))))
    return Pact(pact.hands, notes, pact.ready, mask_lot(pact, draft.whole))
