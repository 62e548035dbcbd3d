"""Several offices in the place of one notary: which of them know what."""

from boundorvoid.climbs import not_above
from boundorvoid.court import Torn, court
from boundorvoid.errors import InvalidOffices, InvalidSize, Refused
from boundorvoid.families import lots_fault, need_family, sized_family
from boundorvoid.heights import next_note
from boundorvoid.pacts import hand_lot, hand_number, key_note, lies_under, ready_note
from boundorvoid.parts import FEWEST_HANDS, MOST_HANDS
from boundorvoid.values import is_known, is_lot_of, is_name, is_number, rises

MOST_OFFICES = 6


class Offices:
    """Offices that answer in the place of a notary: who tells whom, where hands may ask, and who may forget."""

    def __init__(self, names, tells, counters, forgets):
        _need_parts(names, tells, counters, forgets)
        self.names = names
        self.tells = tells
        self.counters = counters
        self.forgets = forgets

    def __eq__(self, other):
        return (isinstance(other, Offices) and self.names == other.names and self.tells == other.tells
                and self.counters == other.counters and self.forgets == other.forgets)


def _need_parts(names, tells, counters, forgets):
    if not _are_names(names):
        raise InvalidOffices("names")
    if not _are_tells(tells, names):
        raise InvalidOffices("tells")
    if not _are_counters(counters, names):
        raise InvalidOffices("counters")
    if lots_fault(names, forgets) is not None:
        raise InvalidOffices("forgets")


def _are_names(value):
    """Whether any value is a lot of 1 to 6 names."""
    if not isinstance(value, tuple) or not 1 <= len(value) <= MOST_OFFICES:
        return False
    return all([is_name(name) for name in value]) and rises(value)


def _is_pair(value):
    return isinstance(value, tuple) and len(value) == 2


def _are_tells(value, names):
    """Whether any value is an ascending tuple of unlike pairs of unlike offices."""
    if not isinstance(value, tuple):
        return False
    for thing in value:
        if not _is_pair(thing) or not all([is_known(name, names) for name in thing]) or thing[0] == thing[1]:
            return False
    return rises(value)


def _are_counters(value, names):
    """Whether any value is a tuple of pairs of a hand and its counters, hands ascending."""
    if not isinstance(value, tuple) or not FEWEST_HANDS <= len(value) <= MOST_HANDS:
        return False
    for thing in value:
        if not _is_pair(thing) or not is_name(thing[0]) or not _are_lots(thing[1], names):
            return False
    return rises([hand for hand, _ in value])


def _are_lots(value, names):
    """Whether any value is an ascending tuple of one or more unlike lots of offices, none empty."""
    if not isinstance(value, tuple) or not value:
        return False
    return all([is_lot_of(lot, names) and len(lot) > 0 for lot in value]) and rises(value)


def ask_known(offices, lot, other, gone):
    """Whether an ask made at one counter is known at another one while some offices forget."""
    knowing = [name for name in lot if name not in gone]
    told = [name for teller, name in offices.tells if teller in knowing]
    return any([name not in gone and (name in knowing or name in told) for name in other])


def deaf_pair(offices):
    """The first counters of two hands the second of which may not know of asks at the first; None if there are none."""
    for hand, lots in offices.counters:
        for lot in lots:
            found = _deaf_counter(offices, hand, lot)
            if found is not None:
                return (hand, lot, *found)
    return None


def _deaf_counter(offices, hand, lot):
    """The first other hand and its counter that may not know of asks at a counter, and who forgets; None if all do."""
    for other, lots in offices.counters:
        for counter in lots:
            for gone in offices.forgets:
                if other != hand and not ask_known(offices, lot, counter, gone):
                    return other, counter, gone
    return None


def offices_court(pact, family, offices):
    """What the court finds if offices answer: a row that fails, counters that do not know enough, or a table."""
    need_family(pact, family)
    if tuple([hand for hand, _ in offices.counters]) != hand_lot(pact):
        raise Refused("hands")
    found = court(pact, family)
    if isinstance(found, Torn):
        return found
    pair = deaf_pair(offices)
    return found if pair is None else pair


def sized_offices(names, hands, many, lost):
    """Offices that tell nobody: each so many of them are a counter for each hand, and any lost ones may forget."""
    if not is_number(many) or not 1 <= many <= len(names):
        raise InvalidSize("many")
    if not is_number(lost) or lost > len(names):
        raise InvalidSize("lost")
    lots = sized_family(names, many)
    return Offices(names, (), tuple([(hand, lots) for hand in hands]), sized_family(names, lost))


def alternate_climb(pact, hand, one, other):
    """What climbs from a hand's ready note by two hands in turn, as long as it is in the paper."""
    note = ready_note(pact, hand)
    hand_number(pact, one)
    hand_number(pact, other)
    found = []
    note = next_note(pact, one, note)
    while note is not None and lies_under(pact, note, key_note(pact, one)) and note not in found:
        found.append(note)
        one, other = other, one
        note = next_note(pact, one, note)
    return tuple(found)


def alternate_moments(pact, hand, one, other):
    """For a hand's ready note, and each of this climb, the lot of all notes under which it does not lie."""
    found = alternate_climb(pact, hand, one, other)
    return tuple([not_above(pact, note) for note in (ready_note(pact, hand), *found)])
