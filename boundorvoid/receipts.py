"""Asks whose order is not known any more, and asks that were left out."""

from boundorvoid.booked import awaited_numbers
from boundorvoid.errors import Refused
from boundorvoid.families import need_family
from boundorvoid.pacts import hand_lot, lot_mask, mask_lot
from boundorvoid.parts import joined_mask
from boundorvoid.prospects import is_lost, is_possible
from boundorvoid.reaches import asked_rows
from boundorvoid.rules import need_first_ask, told_plainly
from boundorvoid.runs import VOID, asks_of, first_bound, need_history, shown_mask, told_answer

BOUND_ALREADY = "bound"
LIARS = "liars"


def receipt_orders(pact, receipts):
    """How many orders of some receipts the plain rule answers so."""
    return len(_plain_orders(pact, need_history(pact, receipts)))


def nth_receipt_order(pact, receipts, number):
    """The history with a number among these orders, ascending; None if there are not so many."""
    orders = _plain_orders(pact, need_history(pact, receipts))
    return orders[number] if number < len(orders) else None


def _plain_orders(pact, receipts):
    """All orders of some receipts in which each is what the plain rule answers, ascending."""
    orders = [()]
    for _ in receipts:
        longer = [order + (triple,) for order in orders for triple in sorted(receipts) if triple not in order]
        orders = [order for order in longer if _is_told_plainly(pact, order)]
    return orders


def _is_told_plainly(pact, history):
    """Whether the last answer of a history is what the plain rule says."""
    hand, shown, answer = history[-1]
    return told_plainly(pact, history[:-1], hand, shown) == answer


def right_orders(pact, family, receipts):
    """How many orders of some receipts have no wrong answer."""
    need_family(pact, family)
    need_history(pact, receipts)
    if not is_possible(pact, family, asks_of(receipts)):
        raise Refused(LIARS)
    return _right_ways(pact, family, receipts, (), {})


def _right_ways(pact, family, receipts, history, known):
    """In how many orders the receipts that are left can follow without a wrong answer."""
    if len(history) == len(receipts):
        return 1
    many = 0
    for triple in receipts:
        if triple in history:
            continue
        longer = history + (triple,)
        key = _order_key(longer)
        if key not in known:
            known[key] = 0 if is_lost(pact, family, longer) else _right_ways(pact, family, receipts, longer, known)
        many = many + known[key]
    return many


def _order_key(history):
    """All of an order on which it hangs what is right behind it: who came, and who came up to the first bound."""
    at = first_bound(history)
    hands = [hand for hand, _, _ in history]
    if at is None:
        return tuple(sorted(hands)), (), ""
    return tuple(sorted(hands)), tuple(sorted(hands[:at])), hands[at]


def unlogged_asks(pact, history, hand, moment):
    """A place and the fewest asks that, put in there, make the plain rule void an ask; None if no asks do."""
    need_first_ask(pact, history, hand, moment)
    if first_bound(history) is not None:
        raise Refused(BOUND_ALREADY)
    if told_plainly(pact, history, hand, moment) == VOID:
        return 0, ()
    seen = shown_mask(pact, history) | lot_mask(pact, moment)
    fresh = tuple([other for other in hand_lot(pact) if other != hand and told_answer(history, other) is None])
    awaited = [_awaited_behind(pact, history[:place]) for place in range(len(history) + 1)]
    for row in asked_rows(fresh, (fresh,), ()):
        for place, numbers in enumerate(awaited):
            for number in numbers:
                asks = _asks_along(pact, number, row, seen)
                if asks is not None:
                    return place, asks
    return None


def _awaited_behind(pact, history):
    """The numbers of the notes that are awaited behind a history of voids."""
    told = [(pact.hand_numbers[hand], lot_mask(pact, shown), answer) for hand, shown, answer in history]
    # A hand that showed all its notes would void the last ask anyway, so some notes are always left to await.
    return awaited_numbers(pact, told, shown_mask(pact, history))


def _asks_along(pact, number, row, seen):
    """Asks of a row of hands, each told void for want of a note above the one ahead; None if the last one is seen.

    Each hand shows its notes below what the climb has of it, and so little else that no awaited note is among it.
    """
    asks = []
    for name in row:
        owner = pact.hand_numbers[name]
        own = pact.rows[owner]
        level = pact.nexts[number][owner]
        asks.append((name, mask_lot(pact, joined_mask(pact.unders, own[:level]))))
        if level == len(own):
            return tuple(asks)
        number = own[level]
    return None if seen >> number & 1 else tuple(asks)
