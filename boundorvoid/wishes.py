"""Wishes: rows each of which some turns should have as a part."""

from boundorvoid.errors import InvalidRow
from boundorvoid.lots import orders_of, without
from boundorvoid.turns import is_part, many_found, turns_fault


def need_wishes(hands, value):
    """Refuse any value that is no lot of turns, none empty and none a part of another one."""
    if not isinstance(value, tuple):
        raise InvalidRow(-1)
    for at, thing in enumerate(value):
        if turns_fault(hands, thing) is not None or not thing or at > 0 and not value[at - 1] < thing:
            raise InvalidRow(at)
    by_size = _by_size(value)
    for at, wish in enumerate(value):
        if _lies_in_longer(wish, by_size) or _has_shorter(wish, by_size):
            raise InvalidRow(at)


def are_wishes(hands, value):
    """Whether any value is wishes of some hands."""
    if not isinstance(value, tuple):
        return False
    if any([turns_fault(hands, thing) is not None for thing in value]):
        return False
    return value == most_wishes(value)


def _by_size(rows):
    """The rows of each length, the longest first."""
    sizes = {}
    for row in sorted(rows, key=len, reverse=True):
        sizes.setdefault(len(row), []).append(row)
    return sizes


def _lies_in_longer(row, by_size):
    """Whether a row is a part of some longer row."""
    # Unlike rows of one length are no parts of one another.
    return any([any([is_part(row, other) for other in by_size[size]]) for size in by_size if size > len(row)])


def _has_shorter(row, by_size):
    return any([any([is_part(other, row) for other in by_size[size]]) for size in by_size if size < len(row)])


def most_wishes(rows):
    """Those of some turns that are not empty and no part of another one, ascending, alike ones once."""
    unlike = {row: True for row in rows if row}
    by_size = _by_size(list(unlike))
    return tuple(sorted([row for row in unlike if not _lies_in_longer(row, by_size)]))


def family_wishes(hands, family):
    """The wishes that turns of a family hold if they are just: the longest rows that it asks."""
    wishes = []
    for lot in family:
        others = [hand for hand in hands if hand not in lot]
        for order in orders_of(lot):
            wishes.extend([order + (hand,) for hand in others])
            if not others:
                wishes.append(order)
    return tuple(sorted(wishes))


def wishes_held(wishes, turns):
    """Whether each wish is a part of some turns."""
    return all([is_part(wish, turns) for wish in wishes])


def wants_behind(wishes, turns):
    """What is still wanted of some wishes behind some turns."""
    return most_wishes([wish[many_found(turns, wish):] for wish in wishes])


def avoiding_turns(hands, wish, many):
    """Turns that do not have a wish as a part, but all turns of at most so many hands that do not have it either."""
    turns = []
    for at, hand in enumerate(wish):
        # What avoids the wish has, between the hands of its longest beginning, no hand that would go on with it.
        turns.extend(list(without(hands, hand)) * many)
        if at + 1 < len(wish):
            turns.append(hand)
    return tuple(turns)


def telling_turns(hands, wishes, one, other):
    """Turns behind which just one of two rows of turns holds the wishes; None if the same is wanted behind both."""
    mine = wants_behind(wishes, one)
    yours = wants_behind(wishes, other)
    if mine == yours:
        return None
    found = _avoiding_all(hands, mine, yours)
    if found is None:
        return _avoiding_all(hands, yours, mine)
    return found


def _avoiding_all(hands, wishes, others):
    """Turns that hold the others, but not some wish that is no part of any of them; None if all wishes are parts."""
    for wish in wishes:
        if not any([is_part(wish, other) for other in others]):
            return avoiding_turns(hands, wish, max([len(other) for other in others], default=0))
    return None
