"""Walks of hands, and whether two pacts are alike by them."""

from boundorvoid.borne import failing_from
from boundorvoid.errors import InvalidRow, Refused
from boundorvoid.pacts import hand_lot, ready_note
from boundorvoid.reaches import asked_rows
from boundorvoid.turns import turns_fault


def walk_note(pact, hand, walk):
    """The note to which a walk comes from a hand's ready note, all within the whole paper; None if it does not hold."""
    ready_note(pact, hand)
    fault = turns_fault(pact.hands, walk)
    if fault is not None:
        raise InvalidRow(fault)
    number = _start_of(pact, hand)
    for other in walk:
        number = step_within(pact, number, other)
    return None if number is None else pact.names[number]


def _start_of(pact, hand):
    """The number of a hand's ready note; None if it is not in the whole paper."""
    number = pact.note_numbers[ready_note(pact, hand)]
    return number if pact.whole >> number & 1 else None


def step_within(pact, number, hand):
    """The number of a hand's next note for a note; None behind None, without one, or outside the whole paper."""
    if number is None:
        return None
    owner = pact.hand_numbers[hand]
    level = pact.nexts[number][owner]
    row = pact.rows[owner]
    return row[level] if level < len(row) and pact.whole >> row[level] & 1 else None


def longest_walk(pact, hand):
    """The least of the longest walks that hold from a hand, no hand twice running; None if none does."""
    start = pact.note_numbers[ready_note(pact, hand)]
    if not pact.whole >> start & 1:
        return None
    walks = {}
    # What is next for a note, of another hand, is told behind it.
    for number in reversed(range(start, len(pact.names))):
        walks[number] = _longest_of(pact, number, walks)
    # The ready note is its hand's next note for itself.
    return (hand, *walks[start])


def _longest_of(pact, number, walks):
    """The least of the longest walks from a note that do not begin with its own hand."""
    found = [()]
    for hand in hand_lot(pact):
        behind = step_within(pact, number, hand)
        if behind is not None and behind != number:
            found.append((hand, *walks[behind]))
    return min(found, key=lambda walk: (-len(walk), walk))


def _need_same_hands(one, other):
    if hand_lot(one) != hand_lot(other):
        raise Refused("hands")


def walk_apart(one, other):
    """The least of the pairs of a hand and a shortest walk that holds from it in only one of two pacts, or None."""
    _need_same_hands(one, other)
    ways = {}
    for hand in hand_lot(one):
        ways[(hand, _start_of(one, hand), _start_of(other, hand))] = ()
    ends = list(ways)
    while ends:
        # Ends stand in the order of their hands and then of their walks.
        for place in ends:
            if (place[1] is None) != (place[2] is None):
                return place[0], ways[place]
        ends = _put_longer_walks(one, other, ends, ways)
    return None


def _put_longer_walks(one, other, ends, ways):
    """Lead all new places one step behind some ends to their walks; the list of these places."""
    found = []
    for place in ends:
        for hand in hand_lot(one):
            behind = (place[0], step_within(one, place[1], hand), step_within(other, place[2], hand))
            if behind not in ways:
                ways[behind] = (*ways[place], hand)
                found.append(behind)
    return found


def rows_apart(one, other):
    """The first row, with the least hand, that holds from it in only one of two pacts; None if there is none."""
    _need_same_hands(one, other)
    hands = hand_lot(one)
    rows = asked_rows(hands, (hands,), ())
    fails = [(hand, failing_from(one, hand, rows), failing_from(other, hand, rows)) for hand in hands]
    for row in rows:
        for hand, mine, yours in fails:
            if (row in mine) != (row in yours):
                return hand, row
    return None
