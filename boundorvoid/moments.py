"""Moments: what may be all that is sent; and the orders in which it may be."""

from boundorvoid.errors import InvalidMoment, InvalidRow, InvalidSize
from boundorvoid.pacts import all_mask, has_note, lot_mask, mask_lot
from boundorvoid.values import is_integer
from boundorvoid.webs import sendable, top_mask

MOST_MOMENTS = 20000


def moment_fault(pact, value):
    """The first wrong place of any value that should be a moment, -1 for what is no tuple; None for a moment."""
    if not isinstance(value, tuple):
        return -1
    for at, thing in enumerate(value):
        if not has_note(pact, thing):
            return at
        if at > 0 and not value[at - 1] < thing:
            return at
    mask = lot_mask(pact, value)
    for at, name in enumerate(value):
        if pact.unders[pact.note_numbers[name]] & ~mask:
            return at
    return None


def need_moment(pact, value):
    """A value that is a moment, as it is."""
    fault = moment_fault(pact, value)
    if fault is not None:
        raise InvalidMoment(fault)
    return value


def need_order(pact, value, whole):
    """Refuse any value that is no order of all notes of a mask, each behind what lies under it."""
    if not isinstance(value, tuple):
        raise InvalidRow(-1)
    told = 0
    for at, thing in enumerate(value):
        if not has_note(pact, thing):
            raise InvalidRow(at)
        number = pact.note_numbers[thing]
        if not whole >> number & 1 or pact.unders[number] & ~told != 1 << number:
            raise InvalidRow(at)
        told = told | 1 << number
    if told != whole:
        raise InvalidRow(len(value))


def moment_mask(pact, moment):
    """The bits of a value that must be a moment."""
    return lot_mask(pact, need_moment(pact, moment))


def moment_levels(pact, moment):
    """How many notes of each hand a moment has, in the order of the hands."""
    mask = moment_mask(pact, moment)
    return tuple([len([at for at in row if mask >> at & 1]) for row in pact.rows])


def moment_at(pact, levels):
    """The moment with these levels, or None."""
    if not isinstance(levels, tuple) or len(levels) != len(pact.hands):
        return None
    mask = 0
    for row, level in zip(pact.rows, levels):
        if not is_integer(level) or not 0 <= level <= len(row):
            return None
        for at in row[:level]:
            mask = mask | 1 << at
    lot = mask_lot(pact, mask)
    if moment_fault(pact, lot) is not None:
        return None
    return lot


def joined_moment(pact, moments):
    """The moment of the notes that some of the moments has."""
    mask = 0
    for moment in moments:
        mask = mask | moment_mask(pact, moment)
    return mask_lot(pact, mask)


def met_moment(pact, moments):
    """The moment of the notes that all of the moments have."""
    mask = all_mask(pact)
    for moment in moments:
        mask = mask & moment_mask(pact, moment)
    return mask_lot(pact, mask)


def moment_tops(pact, moment):
    """The lot of the notes of a moment that lie under no other one of it."""
    return mask_lot(pact, top_mask(pact.unders, moment_mask(pact, moment)))


def all_moments(pact):
    """All moments, those of fewer notes first, then ascending."""
    _need_few([len(row) for row in pact.rows])
    moments = []
    for layer in _layers_within(pact, all_mask(pact)):
        moments.extend(sorted([mask_lot(pact, mask) for mask in layer]))
    return tuple(moments)


def count_sendings(pact, moment):
    """How many sendings a moment has."""
    return _ways_within(pact, _sized_mask(pact, moment))[0]


def nth_sending(pact, moment, number):
    """The sending of a moment that has a number, ascending; None if there are not so many."""
    whole = _sized_mask(pact, moment)
    ways = _ways_within(pact, whole)
    if not 0 <= number < ways[0]:
        return None
    sending = []
    mask = 0
    while mask != whole:
        for at in sendable(pact.by_name, pact.unders, mask, whole):
            behind = ways[mask | 1 << at]
            if number < behind:
                break
            number = number - behind
        sending.append(pact.names[at])
        mask = mask | 1 << at
    return tuple(sending)


def sending_number(pact, moment, value):
    """The number of any value among the sendings of a moment; None for what is no sending."""
    whole = _sized_mask(pact, moment)
    ways = _ways_within(pact, whole)
    if not isinstance(value, tuple) or len(value) != len(moment):
        return None
    number = 0
    mask = 0
    for thing in value:
        choices = sendable(pact.by_name, pact.unders, mask, whole)
        if not has_note(pact, thing) or pact.note_numbers[thing] not in choices:
            return None
        chosen = pact.note_numbers[thing]
        number = number + sum([ways[mask | 1 << at] for at in choices[:choices.index(chosen)]])
        mask = mask | 1 << chosen
    return number


def _need_few(levels):
    """Refuse levels that may have too many moments below them."""
    product = 1
    for level in levels:
        product = product * (level + 1)
    if product > MOST_MOMENTS:
        raise InvalidSize("moments")


def _sized_mask(pact, moment):
    """The bits of a moment that is not too large for its sendings to be counted."""
    mask = moment_mask(pact, moment)
    _need_few(moment_levels(pact, moment))
    return mask


def _layers_within(pact, whole):
    """All moments within a moment, a list for each number of notes."""
    layers = [[0]]
    while layers[-1] != [whole]:
        behind = {}
        for mask in layers[-1]:
            for at in sendable(pact.by_name, pact.unders, mask, whole):
                behind[mask | 1 << at] = True
        layers.append(list(behind))
    return layers


def _ways_within(pact, whole):
    """For each moment within a moment in how many orders the rest of that can be sent."""
    ways = {whole: 1}
    layers = _layers_within(pact, whole)
    for layer in reversed(layers[:-1]):
        for mask in layer:
            choices = sendable(pact.by_name, pact.unders, mask, whole)
            ways[mask] = sum([ways[mask | 1 << at] for at in choices])
    return ways
