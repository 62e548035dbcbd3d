"""What of a pact counts for walks: futures of notes, and tables that alike pacts share.

The steps of a table lead, for each hand and each of its levels, to the levels of all hands next to come.
"""

from boundorvoid.alike import step_within
from boundorvoid.lots import orders_of
from boundorvoid.pacts import Pact, hand_lot, note_number
from boundorvoid.parts import MOST_NOTES, bits_of
from boundorvoid.reaches import ready_numbers
from boundorvoid.turns import note_name
from boundorvoid.values import LETTERS
from boundorvoid.webs import bare_notes, mask_names, top_mask


def _futures(pact):
    """For each note of the whole paper a number that only notes with the same future share."""
    known = {}
    futures = {}
    # Behind a note come, but for itself, notes that are told behind it; so theirs are known.
    for number in reversed(range(len(pact.names))):
        if pact.whole >> number & 1:
            ends = [step_within(pact, number, hand) for hand in pact.hands]
            owner = pact.hand_numbers[pact.notes[number][1]]
            key = (owner, tuple([-1 if end is None or end == number else futures[end] for end in ends]))
            futures[number] = known.setdefault(key, len(known))
    return futures


def same_future(pact, one, other):
    """Whether the same walks lead on from two notes within the whole paper, or both are outside."""
    mine = note_number(pact, one)
    yours = note_number(pact, other)
    futures = _futures(pact)
    return futures.get(mine) == futures.get(yours)


def _met_numbers(pact):
    """The numbers of the notes to which walks that hold come, in told order."""
    met = {number: True for number in ready_numbers(pact) if pact.whole >> number & 1}
    for number in range(len(pact.names)):
        if number in met:
            for end in [step_within(pact, number, hand) for hand in pact.hands]:
                if end is not None:
                    met[end] = True
    return sorted(list(met))


def _cores_of(pact, futures):
    """For each hand, in ascending order, its core notes along its row, told by the futures that they have."""
    cores = {hand: {} for hand in hand_lot(pact)}
    for number in _met_numbers(pact):
        # The last note of a future takes the place of those ahead of it.
        cores[pact.notes[number][1]][futures[number]] = number
    return cores


def core_notes(pact):
    """The lot of the last met notes of each future of each hand."""
    cores = _cores_of(pact, _futures(pact))
    return tuple(sorted([pact.names[number] for own in cores.values() for number in own.values()]))


def core_table(pact):
    """The hands, the levels at which walks start, and for each level of each hand those that come next."""
    futures = _futures(pact)
    cores = _cores_of(pact, futures)
    levels = {hand: {future: level for level, future in enumerate(own)} for hand, own in cores.items()}
    ready = ready_numbers(pact)
    starts = [_level_in(levels[hand], futures, ready[pact.hand_numbers[hand]]) for hand in cores]
    steps = []
    for own in cores.values():
        steps.append(tuple([tuple([_level_in(levels[hand], futures, step_within(pact, number, hand))
                                   for hand in cores]) for number in own.values()]))
    return tuple(cores), tuple(starts), tuple(steps)


def _level_in(own, futures, number):
    """The level that a hand's futures give to the note with a number; their number for what is outside."""
    return own.get(futures.get(number), len(own))


def core_fault(table):
    """The first fault of a table, by its kind and its place; None if it is that of a pact."""
    _, starts, steps = table
    tops = [len(own) for own in steps]
    for h, start in enumerate(starts):
        if start > tops[h]:
            return "start", h
    places = [(h, i) for h, top in enumerate(tops) for i in range(top)]
    for h, i in places:
        if _is_wrong_step(steps, tops, h, i):
            return "step", h, i
    met = _met_places(starts, steps, tops)
    for h, i in places:
        if (h, i) not in met:
            return "met", h, i
    futures = _table_futures(steps, places)
    for h, i in places:
        if i > 0 and futures[(h, i)] == futures[(h, i - 1)]:
            return "alike", h, i
    return None


def _is_wrong_step(steps, tops, h, i):
    """Whether the step of a level leads too high, back, lower than the one ahead, or to what does not go on so."""
    step = steps[h][i]
    if _falls(tops, step) or step[h] != i or i > 0 and _falls(step, steps[h][i - 1]):
        return True
    for g, level in enumerate(step):
        if g != h and level < tops[g]:
            above = steps[g][level]
            if above[h] <= i or _falls(above, step):
                return True
    return False


def _falls(numbers, others):
    """Whether some number is lower than the one at its place among others."""
    return any([one < other for one, other in zip(numbers, others)])


def _met_places(starts, steps, tops):
    """The places of the levels to which steps come from the starts."""
    ends = [(h, start) for h, start in enumerate(starts) if start < tops[h]]
    met = {}
    while ends:
        h, i = ends.pop()
        if (h, i) not in met:
            met[(h, i)] = True
            ends.extend([(g, level) for g, level in enumerate(steps[h][i]) if level < tops[g]])
    return met


def _table_futures(steps, places):
    """For each place of a table without wrong steps a number that only places with the same future share."""
    known = {}
    futures = {}
    # A step to another hand never falls, and rises for this hand.
    for h, i in sorted(places, key=lambda place: -sum(steps[place[0]][place[1]])):
        ends = [-1 if g == h else futures.get((g, level), -1) for g, level in enumerate(steps[h][i])]
        futures[(h, i)] = known.setdefault((h, tuple(ends)), len(known))
    return futures


def tabled_pact(table):
    """A pact with a table; None if this has a fault, or the pact would have too many notes."""
    if core_fault(table) is not None:
        return None
    hands, starts, steps = table
    rows = _table_rows(starts, steps)
    many = rows[-1][-1] + 1
    if many > MOST_NOTES:
        return None
    names = [LETTERS[at] if at < len(LETTERS) else note_name(at - len(LETTERS)) for at in range(many)]
    unders = _table_unders(steps, rows)
    # A ready note behind all levels is told last, and alone is outside the paper.
    outside = [row[-1] for row, start, own in zip(rows, starts, steps) if start == len(own)]
    ready = [names[row[-1] if start == len(own) else row[start]] for row, start, own in zip(rows, starts, steps)]
    whole = bits_of([at for at in range(many) if at not in outside])
    return Pact(hands, bare_notes(hands, rows, names, unders), ready, mask_names(names, top_mask(unders, whole)))


def _table_rows(starts, steps):
    """For each hand the numbers of its notes: one for each level, at least one, then perhaps a ready note."""
    rows = []
    ahead = 0
    for start, own in zip(starts, steps):
        many = max(len(own), 1) + (1 if start == len(own) else 0)
        rows.append(list(range(ahead, ahead + many)))
        ahead = ahead + many
    return rows


def _table_unders(steps, rows):
    """For each note of this pact the bits of what lies under it."""
    unders = []
    for g, row in enumerate(rows):
        for j, number in enumerate(row):
            if j < len(steps[g]):
                below = [rows[h][i] for h, own in enumerate(steps) for i, step in enumerate(own) if step[g] <= j]
                unders.append(bits_of(below))
            elif j > 0:
                # The ready note behind all levels.
                unders.append(unders[-1] | 1 << number)
            else:
                unders.append(1 << number)
    return unders


def one_form(pact):
    """The least starts and steps of the tables that come if the hands are taken in any order."""
    _, starts, steps = core_table(pact)
    return min([_turned(starts, steps, order) for order in orders_of(tuple(range(len(starts))))])


def _turned(starts, steps, order):
    """The starts and steps of a table with its hands in another order."""
    turned = tuple([tuple([tuple([step[at] for at in order]) for step in steps[h]]) for h in order])
    return tuple([starts[h] for h in order]), turned


def turnings(pact):
    """The tuples of new names for the hands with which a pact is alike to itself, ascending."""
    hands, starts, steps = core_table(pact)
    orders = orders_of(tuple(range(len(hands))))
    same = [order for order in orders if _turned(starts, steps, order) == (starts, steps)]
    return tuple([tuple([hands[h] for h in order]) for order in same])
