"""What is still wanted of some wishes, turn by turn, as bits; and machines that go by it."""

from boundorvoid.turns import is_part
from boundorvoid.webs import mask_numbers


class Wants:
    """All rests of some wishes, numbered. What is wanted is a mask of rests none of which is a part of another one."""

    def __init__(self, hands, wishes):
        numbers = _numbered_rests(wishes)
        rests = list(numbers)
        self.rests = rests
        self.first = sum([1 << numbers[wish] for wish in wishes])
        self.heads = {hand: sum([1 << at for at, rest in enumerate(rests) if rest[0] == hand]) for hand in hands}
        self.tails = [1 << numbers[rest[1:]] if len(rest) > 1 else 0 for rest in rests]
        self.inner = [sum([1 << at for at, other in enumerate(rests) if len(other) < len(rest) and is_part(
            other, rest)]) for rest in rests]


def _numbered_rests(wishes):
    """The numbers of all that may be left of some wishes."""
    numbers = {}
    for wish in wishes:
        for at in range(len(wish)):
            numbers.setdefault(wish[at:], len(numbers))
    return numbers


def wanted_behind(wants, mask, hand):
    """What of a mask is still wanted behind the turn of a hand."""
    return _left_of(wants, mask, mask & wants.heads[hand])


def wanted_with(wants, mask, lot):
    """What of a mask is still wanted if the hands of a lot write at the same time."""
    begun = 0
    for hand in lot:
        begun = begun | mask & wants.heads[hand]
    return _left_of(wants, mask, begun)


def _left_of(wants, mask, begun):
    """What of a mask is still wanted if those rests of it that are begun go on by one hand."""
    if not begun:
        return mask
    left = mask & ~begun
    for at in mask_numbers(begun):
        left = left | wants.tails[at]
    covered = 0
    for at in mask_numbers(left):
        covered = covered | wants.inner[at]
    return left & ~covered


def wanted_wishes(wants, mask):
    """The wishes of a mask."""
    return tuple(sorted([wants.rests[at] for at in mask_numbers(mask)]))


def all_states(first, hands, step):
    """All states that come from a first one, as they are met, and for each the numbers of those behind each hand."""
    numbers = {first: 0}
    states = [first]
    steps = []
    while len(steps) < len(states):
        state = states[len(steps)]
        behind = []
        for hand in hands:
            found = step(state, hand)
            if found not in numbers:
                numbers[found] = len(states)
                states.append(found)
            behind.append(numbers[found])
        steps.append(tuple(behind))
    return states, steps


def wants_machine(wants, hands):
    """The states of what is wanted, and the steps between them; the first state is all wishes."""
    return all_states(wants.first, hands, lambda mask, hand: wanted_behind(wants, mask, hand))


def turns_machine(wants, hands):
    """The same for turns that count only when all hands have come; states are told with the bits of those who came."""
    return all_states((0, wants.first), hands, lambda state, hand: state_behind(wants, hands, state, hand))


def state_behind(wants, hands, state, hand):
    """The state of turns behind one more hand."""
    came = state[0] | 1 << hands.index(hand)
    if came != (1 << len(hands)) - 1:
        return came, state[1]
    return came, wanted_behind(wants, state[1], hand)


def just_state(hands):
    """The state of just turns."""
    return (1 << len(hands)) - 1, 0


def ways_to(steps, goal, many):
    """For each number of turns up to many, and each state, how many rows of so many turns lead to the goal."""
    rows = [[1 if at == goal else 0 for at in range(len(steps))]]
    while len(rows) <= many:
        ahead = rows[-1]
        rows.append([sum([ahead[at] for at in behind]) for behind in steps])
    return rows


def least_prices(steps, goal, prices):
    """For each state the least price of turns that lead to the goal; it must be reached from each."""
    # More than any turns cost that never keep a state.
    far = (max(prices) + 1) * (len(steps) + 1)
    least = [0 if at == goal else far for at in range(len(steps))]
    changed = True
    while changed:
        changed = False
        # States that come later mostly stand behind: so few rounds are enough.
        for at in reversed(range(len(steps))):
            found = min([price + least[behind] for price, behind in zip(prices, steps[at])])
            if found < least[at]:
                least[at] = found
                changed = True
    return least


def least_turns(wants, hands):
    """The shortest turns that hold the wishes, of these the least."""
    # Turns are lengthened in ascending order, so the first way to a state is the least.
    ways = {wants.first: ()}
    ends = [wants.first]
    while 0 not in ways:
        longer = []
        for state in ends:
            for hand in hands:
                behind = wanted_behind(wants, state, hand)
                if behind not in ways:
                    ways[behind] = (*ways[state], hand)
                    longer.append(behind)
        ends = longer
    return ways[0]
