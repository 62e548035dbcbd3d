"""Families: which hands may lie together."""

from boundorvoid.errors import InvalidFamily, InvalidSize, InvalidText
from boundorvoid.lots import greatest_lots, lies_within, parts_of, sized_order, without
from boundorvoid.values import is_lot_of, is_name, rises


def need_family(pact, value):
    """Refuse any value that is no family of the pact's hands."""
    fault = family_fault(pact, value)
    if fault is not None:
        raise InvalidFamily(fault)


def family_fault(pact, value):
    """The first wrong place of any value that should be a family of the pact's hands; None for a family."""
    return lots_fault(pact.hands, value)


def lots_fault(names, value):
    """The first wrong place of any value that should be a family of some names, -1 for none at all; None for one."""
    if not isinstance(value, tuple) or not value:
        return -1
    for at, thing in enumerate(value):
        if not is_lot_of(thing, names) or at > 0 and not value[at - 1] < thing:
            return at
    return first_inner(value)


def first_inner(lots):
    """The number of the first of unlike lots that lies within another one, or None."""
    owners = {}
    for at, lot in enumerate(lots):
        for name in lot:
            owners.setdefault(name, []).append(at)
    for at, lot in enumerate(lots):
        if not lot and len(lots) > 1:
            return at
        # Only lots with the rarest name of this one can have all of it.
        rarest = min([owners[name] for name in lot], key=len, default=[at])
        if any([other != at and lies_within(lot, lots[other]) for other in rarest]):
            return at
    return None


def in_family(family, lot):
    """Whether a lot is one of the family's lots."""
    return any([lies_within(lot, told) for told in family])


def all_lots(family):
    """All lots of a family, those of fewer hands first, then ascending."""
    found = {part: True for lot in family for part in parts_of(lot)}
    return tuple(sized_order(list(found)))


def family_of(lots):
    """The family of those of the lots that lie within no other one; without lots nobody lies."""
    if not lots:
        return ((),)
    return greatest_lots(lots)


def sized_family(hands, many):
    """The family of all lots of so many of the hands."""
    if many > len(hands):
        raise InvalidSize("many")
    return tuple([part for part in parts_of(hands) if len(part) == many])


def family_join(one, other):
    """The family whose lots are those of one or of another family."""
    return family_of([*one, *other])


def barred_lots(hands, family):
    """The lots of the hands that are not the family's, but are with any one hand left out."""
    found = [lot for lot in parts_of(hands) if not in_family(family, lot)]
    return tuple([lot for lot in found if all([in_family(family, without(lot, hand)) for hand in lot])])


def family_barring(hands, lots):
    """The family of all lots of the hands within which none of some lots lies; None if the empty one is barred."""
    free = [part for part in parts_of(hands) if not any([lies_within(lot, part) for lot in lots])]
    if not free:
        return None
    return family_of(free)


def family_text(family):
    """The text of a family, a line for each lot."""
    return "\n".join([" ".join(lot) for lot in family])


def read_family(text):
    """The family with this text."""
    if not isinstance(text, str):
        raise InvalidText(-1)
    if not text:
        return ((),)
    lots = []
    for at, line in enumerate(text.split("\n")):
        lot = tuple(line.split(" "))
        if not all([is_name(name) for name in lot]) or not rises(lot) or at > 0 and not lots[-1] < lot:
            raise InvalidText(at)
        lots.append(lot)
    inner = first_inner(lots)
    if inner is not None:
        raise InvalidText(inner)
    return tuple(lots)
