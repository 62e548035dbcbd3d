"""How high notes climb by rows of hands who may lie together, told level by level."""

from boundorvoid.families import in_family
from boundorvoid.lots import with_name, without
from boundorvoid.pacts import key_level
from boundorvoid.values import is_integer


def asked_rows(hands, family, liars):
    """All rows of a lot of hands whose hands but the last may lie with some liars; fewer hands first, then ascending.

    The liars alone must be one of the family's lots.
    """
    rows = []
    heads = [()]
    while heads:
        longer = [head + (hand,) for head in heads for hand in hands if hand not in head]
        rows.extend(longer)
        # A row can have hands behind it only if its own may lie together.
        heads = [row for row in longer if in_family(family, row + liars)]
    return rows


def table_places(hands, lots):
    """Each of some lots with each of the hands that it lacks."""
    return [(lot, hand) for lot in lots for hand in hands if hand not in lot]


def ready_numbers(pact):
    """The numbers of the ready notes."""
    return [pact.note_numbers[name] for name in pact.ready]


def highest_levels(pact, starts, places):
    """For each place the greatest level of its hand that rows of all of its lot, and then the hand, climb to.

    The starts are numbers of notes. Each lot of a place stands behind the places of all lots within it. The levels
    are told under the lot with the hand, and the hand.
    """
    levels = {}
    for lot, hand in places:
        levels[(with_name(lot, hand), hand)] = _level_above(pact, starts, levels, lot, hand)
    return levels


def _level_above(pact, starts, levels, lot, hand):
    """The greatest next level of a hand for the starts, or for the notes of a lot at their levels in it."""
    number = pact.hand_numbers[hand]
    if not lot:
        return max([pact.nexts[start][number] for start in starts])
    found = []
    for other in lot:
        row = pact.rows[pact.hand_numbers[other]]
        level = levels[(lot, other)]
        found.append(pact.nexts[row[level]][number] if level < len(row) else len(pact.rows[number]))
    return max(found)


def are_in_paper(pact, levels):
    """Whether none of the highest levels is above that of its hand's key note: then no row fails."""
    # A level above that of a key note is just what a failing row comes to.
    return all([level <= key_level(pact, pact.hand_numbers[hand]) for (_, hand), level in levels.items()])


def levels_table(levels):
    """The highest levels as triples of a lot, a hand of it and the level."""
    return tuple([(lot, hand, level) for (lot, hand), level in levels.items()])


def are_levels(pact, starts, places, value):
    """Whether any value is a table for the places with no level too high, or too low for those ahead of it."""
    if not isinstance(value, tuple) or len(value) != len(places):
        return False
    levels = {}
    for (lot, hand), thing in zip(places, value):
        place = (with_name(lot, hand), hand)
        if not isinstance(thing, tuple) or len(thing) != 3 or thing[:2] != place or not is_integer(thing[2]):
            return False
        least = _level_above(pact, starts, levels, lot, hand)
        if not least <= thing[2] <= key_level(pact, pact.hand_numbers[hand]):
            return False
        levels[place] = thing[2]
    return True


def wronged_hands(pact, levels):
    """For each lot without the hand of a level, if some such level is above its key note's: those hands, a list."""
    found = {}
    for (lot, hand), level in levels.items():
        if level > key_level(pact, pact.hand_numbers[hand]):
            found.setdefault(without(lot, hand), []).append(hand)
    return found
