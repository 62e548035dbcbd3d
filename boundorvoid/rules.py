"""The plain rule of a notary, the ranks of what is asked, and the rules to a depth."""

from boundorvoid.errors import InvalidSize, Refused
from boundorvoid.moments import need_moment
from boundorvoid.pacts import hand_number, lot_mask
from boundorvoid.runs import BOUND, VOID, first_bound, need_history, shown_mask, told_answer
from boundorvoid.values import is_number


def need_ask(pact, history, hand, moment):
    """Refuse what is no history, then what is no hand, then what is no moment."""
    need_history(pact, history)
    hand_number(pact, hand)
    need_moment(pact, moment)


def need_first_ask(pact, history, hand, moment):
    """Refuse what is no ask, or one of a hand that has asked."""
    need_ask(pact, history, hand, moment)
    if told_answer(history, hand) is not None:
        raise Refused("asked")


def plain_reasons(pact, history, hand, moment):
    """Why the plain rule tells void: the hands whose ready note is not seen, and the unshown hands."""
    need_first_ask(pact, history, hand, moment)
    return _reasons(pact, history, moment)


def _reasons(pact, history, moment):
    seen = shown_mask(pact, history) | lot_mask(pact, moment)
    unshown = unshown_hands(pact, history, seen)
    return tuple(sorted(unready_hands(pact, seen))), tuple(sorted(unshown))


def unready_hands(pact, seen):
    """The hands whose ready note is not seen, in their order."""
    return [hand for hand, note in zip(pact.hands, pact.ready) if not seen >> pact.note_numbers[note] & 1]


def unshown_hands(pact, history, seen):
    """The hands told void of whom no note is seen but those that they showed, as they came."""
    found = []
    for hand, moment, answer in history:
        own = seen & pact.row_masks[pact.hand_numbers[hand]]
        if answer == VOID and own & ~lot_mask(pact, moment) == 0:
            found.append(hand)
    return found


def plain_answer(pact, history, hand, moment):
    """What the plain rule answers."""
    need_ask(pact, history, hand, moment)
    return told_plainly(pact, history, hand, moment)


def told_plainly(pact, history, hand, moment):
    """What the plain rule answers to an ask that is one."""
    told = told_answer(history, hand)
    if told is not None:
        return told
    if first_bound(history) is not None:
        return BOUND
    unready, unshown = _reasons(pact, history, moment)
    return VOID if unready or unshown else BOUND


def ask_rank(pact, history, hand, moment):
    """The rank of an ask: 0 if nothing speaks against bound, else how long its chain of hands is."""
    need_first_ask(pact, history, hand, moment)
    return _last_chain(pact, history, hand, moment)[0]


def ask_chain(pact, history, hand, moment):
    """The hand whose ready note was missing, or None, and the row of those who could not be answered for that."""
    need_first_ask(pact, history, hand, moment)
    return _last_chain(pact, history, hand, moment)[1:]


def _last_chain(pact, history, hand, moment):
    """Rank, missed hand and row of an ask behind a history."""
    chains = []
    seen = 0
    for at, ask in enumerate([*history, (hand, moment)]):
        seen = seen | lot_mask(pact, ask[1])
        chains.append(_chain_behind(pact, history[:at], chains, seen, ask[0]))
    return chains[-1]


def _chain_behind(pact, history, chains, seen, hand):
    """Rank, missed hand and row of a hand that asks behind a history, all entries of which have theirs."""
    unready = unready_hands(pact, seen)
    if unready:
        return 1, unready[0], (hand,)
    unshown = unshown_hands(pact, history, seen)
    found = [chain for entry, chain in zip(history, chains) if entry[0] in unshown]
    if not found:
        return 0, None, (hand,)
    rank, missed, row = min(found, key=lambda chain: chain[0])
    return rank + 1, missed, row + (hand,)


def need_depth(value):
    """Refuse any value that is no depth."""
    if value is not None and not is_number(value):
        raise InvalidSize("depth")


def deep_answer(pact, history, hand, moment, *, depth=None):
    """What the rule to a depth answers: void, where the plain rule finds reasons, up to this rank alone."""
    need_depth(depth)
    need_ask(pact, history, hand, moment)
    answer = told_plainly(pact, history, hand, moment)
    if depth is None or answer == BOUND or told_answer(history, hand) is not None:
        return answer
    rank = _last_chain(pact, history, hand, moment)[0]
    return VOID if rank <= depth else BOUND
