"""What a notary that keeps the plain rule must remember of the asks.

Asks are kept here as triples of the number of the hand, the bits of what it shows, and the answer.
"""

from boundorvoid.errors import InvalidSize, Refused
from boundorvoid.heights import closure_of
from boundorvoid.lots import lies_within, with_name, without
from boundorvoid.moments import all_moments
from boundorvoid.pacts import lot_mask, mask_lot, notes_of
from boundorvoid.parts import bits_of, joined_mask
from boundorvoid.reaches import ready_numbers
from boundorvoid.runs import BOUND, VOID, need_heard
from boundorvoid.webs import mask_numbers, top_mask

NEVER = "never"
AWAITED = "awaited"
MOST_HANDS = 3
MOST_MOMENTS = 100


def book_entry(pact, heard):
    """The least that tells how the plain rule will answer behind some asks."""
    need_heard(pact, heard)
    told = []
    for hand, moment in heard:
        told = _with_ask(pact, told, pact.hand_numbers[hand], lot_mask(pact, moment))
    return _entry_of(pact, told)


def _with_ask(pact, told, number, mask):
    """What is told with one more ask, which the plain rule answers."""
    # Once somebody is told bound, nothing is awaited any more.
    awaited = awaited_numbers(pact, told, _seen_mask(told) | mask)
    return [*told, (number, mask, BOUND if awaited == [] else VOID)]


def _is_bound(told):
    return any([answer == BOUND for _, _, answer in told])


def _seen_mask(told):
    seen = 0
    for _, mask, _ in told:
        seen = seen | mask
    return seen


def awaited_numbers(pact, told, seen):
    """The notes that must be seen for a bound; None if an unshown hand has none left."""
    numbers = [at for at in ready_numbers(pact) if not seen >> at & 1]
    for number, mask, answer in told:
        own = pact.row_masks[number]
        if answer == VOID and seen & own & ~mask == 0:
            left = mask_numbers(own & ~mask)
            if not left:
                return None
            numbers.append(left[0])
    return numbers


def _entry_of(pact, told):
    """The entry behind asks that the plain rule answered."""
    if len(told) == len(pact.hands):
        return ()
    if _is_bound(told):
        return (BOUND,)
    seen = _seen_mask(told)
    numbers = awaited_numbers(pact, told, seen)
    if numbers is None:
        return (NEVER,)
    under = joined_mask(pact.unders, numbers)
    tops = top_mask(pact.unders, bits_of(numbers))
    return AWAITED, mask_lot(pact, tops), _fresh_levels(pact, told, seen | under)


def _fresh_levels(pact, told, known):
    """How many notes of each fresh hand are known, in the hands' order; none if only one hand is fresh."""
    asked = [number for number, _, _ in told]
    fresh = [own for number, own in enumerate(pact.row_masks) if number not in asked]
    if len(fresh) == 1:
        return ()
    return tuple([len(mask_numbers(known & own)) for own in fresh])


def parting_asks(pact, one, other):
    """One or two asks to the last of which the plain rule answers differently behind two heards; None if none do."""
    need_heard(pact, one)
    need_heard(pact, other)
    if sorted([hand for hand, _ in one]) != sorted([hand for hand, _ in other]):
        raise Refused("hands")
    entry = book_entry(pact, one)
    twin = book_entry(pact, other)
    if entry == twin:
        return None
    asked = [hand for hand, _ in one]
    fresh = [hand for hand in pact.hands if hand not in asked]
    if entry[0] == twin[0]:
        return _asks_between(pact, fresh, entry, twin)
    if BOUND in (entry[0], twin[0]):
        return ((fresh[0], ()),)
    return ((fresh[0], tuple(sorted(pact.names))),)


def _asks_between(pact, fresh, entry, twin):
    """Asks that part two entries behind which some notes are awaited."""
    mine = closure_of(pact, entry[1])
    yours = closure_of(pact, twin[1])
    if mine != yours:
        return ((fresh[0], yours if lies_within(yours, mine) else mine),)
    hand, least = [(hand, min(one, other)) for hand, one, other in zip(fresh, entry[2], twin[2]) if one != other][0]
    # The hand shows all that is known of it behind one entry, but less than behind the other one: there it lies.
    shown = closure_of(pact, notes_of(pact, hand)[:least])
    return (hand, shown), (without(fresh, hand)[0], mine)


def book_entries(pact):
    """All lots of hands that may have asked, each with each entry that it may have, ascending."""
    if len(pact.hands) > MOST_HANDS:
        raise InvalidSize("hands")
    moments = all_moments(pact)
    if len(moments) > MOST_MOMENTS:
        raise InvalidSize("moments")
    masks = [lot_mask(pact, moment) for moment in moments]
    ways = {((), _entry_of(pact, [])): []}
    found = list(ways)
    # Behind equal entries all goes on alike; so one way to each is enough.
    while ways:
        longer = {}
        for (lot, _), told in ways.items():
            _put_longer_ways(pact, masks, lot, told, longer)
        ways = longer
        found.extend(list(ways))
    return tuple(sorted(found))


def _put_longer_ways(pact, masks, lot, told, longer):
    """Lead the pairs that come by one more ask to what is told then."""
    for number, hand in enumerate(pact.hands):
        if hand in lot:
            continue
        behind = with_name(lot, hand)
        if len(behind) == len(pact.hands):
            longer[(behind, ())] = [*told, (number, 0, VOID)]
            continue
        for mask in masks:
            more = _with_ask(pact, told, number, mask)
            longer[(behind, _entry_of(pact, more))] = more
