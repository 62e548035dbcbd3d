"""What sheets and claims are about: tuples of a family, a lot, a hand, a row, or what was heard."""

from boundorvoid.climbs import row_fault
from boundorvoid.families import family_fault
from boundorvoid.pacts import has_hand
from boundorvoid.runs import HEARD_PARTS, HISTORY_PARTS, asks_fault
from boundorvoid.values import is_lot_of


def is_question(pact, parts, value):
    """Whether any value is a tuple of just such parts."""
    if not isinstance(value, tuple) or len(value) != len(parts):
        return False
    return all([_is_part(pact, part, thing) for part, thing in zip(parts, value)])


def _is_part(pact, part, value):
    """Whether any value is what a part of a question must be."""
    if part == "family":
        return family_fault(pact, value) is None
    if part == "lot":
        return is_lot_of(value, pact.hands)
    if part == "hand":
        return has_hand(pact, value)
    if part == "row":
        return row_fault(pact, value) is None
    return asks_fault(pact, value, HISTORY_PARTS if part == "history" else HEARD_PARTS) is None
