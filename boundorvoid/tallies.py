"""How many rows of turns there are, and which."""

from boundorvoid.errors import InvalidSize
from boundorvoid.turns import turns_lack
from boundorvoid.wants import Wants, just_state, turns_machine, wanted_wishes, wants_machine, ways_to
from boundorvoid.wishes import family_wishes


def wishes_machine(hands, wishes):
    """All that is wanted behind any turns, as it is met, and the steps from one to another, hand by hand."""
    wants = Wants(hands, wishes)
    states, steps = wants_machine(wants, hands)
    return tuple([wanted_wishes(wants, state) for state in states]), tuple(steps)


def stretch_count(hands, wishes, many):
    """How many rows of so many turns hold the wishes."""
    states, steps = wants_machine(Wants(hands, wishes), hands)
    return ways_to(steps, states.index(0), many)[many][0]


def turns_count(hands, family, many):
    """How many rows of so many turns are just."""
    _, ways = _steps_and_ways(hands, family, many)
    return ways[many][0]


def _steps_and_ways(hands, family, many):
    """The steps of turns, and for each number of turns and each state how many rows of these make it just."""
    states, steps = turns_machine(Wants(hands, family_wishes(hands, family)), hands)
    return steps, ways_to(steps, states.index(just_state(hands)), many)


def turns_at(hands, family, many, number):
    """The row with a number among the just rows of so many turns, ascending."""
    steps, ways = _steps_and_ways(hands, family, many)
    if number >= ways[many][0]:
        raise InvalidSize("number")
    turns = []
    state = 0
    for left in reversed(range(many)):
        for at, hand in enumerate(hands):
            behind = ways[left][steps[state][at]]
            if number < behind:
                break
            number = number - behind
        turns.append(hand)
        state = steps[state][at]
    return tuple(turns)


def turns_place(hands, family, turns):
    """The number of turns among the just ones with as many turns; None if they are not just."""
    if turns_lack(hands, family, turns) is not None:
        return None
    steps, ways = _steps_and_ways(hands, family, len(turns))
    number = 0
    state = 0
    for at, turn in enumerate(turns):
        place = hands.index(turn)
        number = number + sum([ways[len(turns) - at - 1][behind] for behind in steps[state][:place]])
        state = steps[state][place]
    return number
