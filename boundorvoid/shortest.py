"""How short and how cheap rows of turns can be, and which of them can spare no turn."""

from boundorvoid.families import all_lots
from boundorvoid.lots import orders_of, parts_of, sized_order, without
from boundorvoid.turns import stretch_start
from boundorvoid.values import is_number
from boundorvoid.wants import Wants, just_state, least_prices, state_behind, turns_machine, wanted_behind
from boundorvoid.wants import wanted_wishes, wants_machine, ways_to
from boundorvoid.wishes import are_wishes, family_wishes, wants_behind


def fewest_stretch(hands, wishes):
    """How many turns hold the wishes at least, and how many rows of so many do."""
    states, steps = wants_machine(Wants(hands, wishes), hands)
    goal = states.index(0)
    least = least_prices(steps, goal, _ones(hands))[0]
    return least, ways_to(steps, goal, least)[least][0]


def _ones(hands):
    """The prices by which turns are counted."""
    return [1 for _ in hands]


def fewest_more(hands, family, turns):
    """How many turns at least must follow some turns to make a just row."""
    steps, least, state = _steps_behind(hands, family, turns)
    return least[state]


def _steps_behind(hands, family, turns):
    """The steps of turns, how far each state is from being just, and the state behind some turns."""
    states, steps = turns_machine(Wants(hands, family_wishes(hands, family)), hands)
    state = 0
    for turn in turns:
        state = steps[state][hands.index(turn)]
    return steps, least_prices(steps, states.index(just_state(hands)), _ones(hands)), state


def next_writers(hands, family, turns):
    """The lot of the hands with which the fewest turns can begin that must follow."""
    steps, least, state = _steps_behind(hands, family, turns)
    return tuple([hand for hand, behind in zip(hands, steps[state]) if least[behind] < least[state]])


def cheapest_turns(hands, family, prices):
    """The least price of a just row, and some just row with it."""
    states, steps = turns_machine(Wants(hands, family_wishes(hands, family)), hands)
    least = least_prices(steps, states.index(just_state(hands)), prices)
    turns = []
    state = 0
    while states[state] != just_state(hands):
        at = _cheapest_step(steps, least, prices, state)
        turns.append(hands[at])
        state = steps[state][at]
    return least[0], tuple(turns)


def _cheapest_step(steps, least, prices, state):
    """The number of a hand with which the cheapest turns behind a state can begin."""
    for at, behind in enumerate(steps[state]):
        # A step that keeps the state might cost nothing and lead nowhere.
        if behind != state and prices[at] + least[behind] == least[state]:
            return at


def price_table(hands, wishes, prices):
    """For each state of the wishes the least price of turns that hold what is wanted, ascending."""
    wants = Wants(hands, wishes)
    states, steps = wants_machine(wants, hands)
    least = least_prices(steps, states.index(0), prices)
    return tuple(sorted([(wanted_wishes(wants, state), price) for state, price in zip(states, least)]))


def table_price(hands, wishes, prices, value):
    """The price below which no turns hold the wishes, as any value shows; None if it shows nothing."""
    if not isinstance(value, tuple):
        return None
    table = {}
    for thing in value:
        if not isinstance(thing, tuple) or len(thing) != 2 or not is_number(thing[1]):
            return None
        if not are_wishes(hands, thing[0]) or thing[0] in table:
            return None
        table[thing[0]] = thing[1]
    if wishes not in table or table.get((), 0) > 0:
        return None
    for wanted, number in table.items():
        for hand, price in zip(hands, prices):
            if number > price + table.get(wants_behind(wanted, (hand,)), 0):
                return None
    return table[wishes]


def needless_turns(hands, family, turns):
    """The numbers of those of just turns that alone can be left out."""
    wants = Wants(hands, family_wishes(hands, family))
    return tuple([at for at in range(len(turns)) if _are_just(wants, hands, turns[:at] + turns[at + 1:])])


def _are_just(wants, hands, turns):
    state = (0, wants.first)
    for turn in turns:
        state = state_behind(wants, hands, state, turn)
    return state == just_state(hands)


def tight_stretches(hands, wishes):
    """All turns that hold the wishes, and not without any one turn; fewer turns first, then ascending."""
    wants = Wants(hands, wishes)
    found = []
    _put_tight(wants, hands, (), [wants.first], found)
    return tuple(sized_order(found))


def _put_tight(wants, hands, turns, states, found):
    """Find the tight turns that begin with these; states tell what is wanted behind them, and without each of them."""
    if states[0] == 0:
        found.append(turns)
        return
    for hand in hands:
        # Without the new turn the same is wanted as ahead of it.
        behind = [*[wanted_behind(wants, state, hand) for state in states], states[0]]
        if behind[0] not in behind[1:]:
            _put_tight(wants, hands, turns + (hand,), behind, found)


def tight_turns(hands, family):
    """All just turns that are not just without any one turn; fewer turns first, then ascending."""
    found = []
    for stretch in tight_stretches(hands, family_wishes(hands, family)):
        found.extend([order + stretch for order in orders_of(without(hands, stretch[0]))])
    return tuple(sized_order(found))


def turn_reach(hands, turns):
    """The greatest number of hands for which each row of so many unlike ones is a part of some turns."""
    ends = _latest_ends(hands, parts_of(hands), 0, lambda hand, at: _place_of(turns, hand, at))
    many = 0
    while many < len(hands) and all([ends[lot] is not None for lot in ends if len(lot) == many + 1]):
        many = many + 1
    return many


def _place_of(turns, hand, at):
    """The number of a hand's first turn from a place on, or None."""
    for place in range(at, len(turns)):
        if turns[place] == hand:
            return place
    return None


def _latest_ends(hands, lots, start, place_of):
    """For each lot the place just behind that at which the last of its orders is found; None if one is not.

    Each lot stands behind all lots within it.
    """
    ends = {(): start}
    for lot in lots:
        if lot:
            found = [_end_with(ends, without(lot, hand), hand, place_of) for hand in lot]
            ends[lot] = None if None in found else max(found)
    return ends


def _end_with(ends, lot, hand, place_of):
    """The place behind the one at which a hand is found behind all orders of a lot, or None."""
    if ends[lot] is None:
        return None
    place = place_of(hand, ends[lot])
    return None if place is None else place + 1


def turn_liars(hands, turns):
    """The greatest number such that turns are just if any so many hands lie together; None if there is none."""
    start = stretch_start(hands, turns)
    if start is None:
        return None
    reach = turn_reach(hands, turns[start:])
    if reach == 0:
        return None
    # A row of all hands but one that lie, and the last one, is a row of all.
    return reach if reach == len(hands) else reach - 1


def rounds_needed(hands, family, period):
    """How many turns of a period, repeated without end, make a just row."""
    start = stretch_start(hands, period)
    ends = _latest_ends(hands, all_lots(family), start, lambda hand, at: _place_in(period, hand, at))
    last = [ends[lot] for lot in ends]
    for lot in all_lots(family):
        others = [hand for hand in hands if hand not in lot]
        last.extend([_place_in(period, hand, ends[lot]) + 1 for hand in others])
    return max(last)


def _place_in(period, hand, at):
    """The number of a hand's first turn from a place on in a period that goes on without end."""
    while period[at % len(period)] != hand:
        at = at + 1
    return at
