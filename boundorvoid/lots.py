"""Lots of names without a pact."""


def lies_within(lot, other):
    """Whether each name of a lot is in another one."""
    return all([name in other for name in lot])


def sized_order(rows):
    """Rows or lots as a list, those of fewer things first, then ascending."""
    return sorted(rows, key=lambda row: (len(row), row))


def parts_of(lot):
    """All lots within a lot, those of fewer names first, then ascending."""
    parts = [()]
    for name in lot:
        parts = parts + [part + (name,) for part in parts]
    return sized_order(parts)


def without(lot, name):
    """A lot without one name."""
    return tuple([other for other in lot if other != name])


def with_name(lot, name):
    """A lot with one name more."""
    return tuple(sorted([*lot, name]))


def greatest_lots(lots):
    """Those of a sequence of lots that lie within no other one, each once, ascending."""
    unlike = {lot: True for lot in lots}
    found = [lot for lot in unlike if not _lies_within_other(lot, unlike)]
    return tuple(sorted(found))


def _lies_within_other(lot, lots):
    return any([lot != other and lies_within(lot, other) for other in lots])


def orders_of(lot):
    """All orders of the names of a lot, ascending."""
    rows = [()]
    for _ in lot:
        rows = [row + (name,) for row in rows for name in lot if name not in row]
    return rows
