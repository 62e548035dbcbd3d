"""Sheets for the tests of papers and books."""

import random

from boundorvoid.borne import borne_paper
from boundorvoid.climbs import climb, row_holds
from boundorvoid.court import Just, court
from boundorvoid.dooms import least_trap
from boundorvoid.families import in_family
from boundorvoid.kept import torn_in
from boundorvoid.pacts import Pact
from boundorvoid.prospects import Safe, prospect
from boundorvoid.runs import filling_liars, filling_run, heard_liars, heard_run
from boundorvoid.wrongs import hopeless_run

from tests.helpers import all_families, all_rows, random_asks, random_history, rising_asks, subsets


def court_sheet(pact, family):
    found = court(pact, family)
    if isinstance(found, Just):
        return "just", (family,), found.table
    return "torn", (family,), (found.hand, found.row)


def prospect_sheet(pact, family, history):
    found = prospect(pact, family, history)
    if isinstance(found, Safe):
        return "safe", (family, history), found.table
    return "lost", (family, history), (found.hand, found.note, found.row)


def possible_histories(pact, family, rng, many):
    """Histories that are possible for a family, the empty one among them."""
    found = [()]
    while len(found) < many:
        history = random_history(rng, pact)
        if in_family(family, heard_liars(pact, tuple(entry[:2] for entry in history))):
            found.append(history)
    return found


def sheets_of(pact, seed, families=4):
    """Sheets of all kinds that hold for a pact."""
    rng = random.Random(seed)
    told = all_families(pact.hands)
    sheets = [("borne", (), borne_paper(pact))]
    for family in rng.sample(told, min(families, len(told))):
        sheets.append(court_sheet(pact, family))
        trap = least_trap(pact, family)
        if trap is not None:
            sheets.append(("trap", (family,), trap))
        for lot in rng.sample(subsets(sorted(pact.hands)), 3):
            torn = torn_in(pact, family, lot)
            if torn is not None:
                sheets.append(("unkept", (family, lot), (torn.hand, torn.row)))
        sheets += [prospect_sheet(pact, family, history) for history in possible_histories(pact, family, rng, 3)]
    rows = [(hand, row) for row in all_rows(pact.hands) for hand in pact.hands if row_holds(pact, hand, row)]
    sheets += [("ladder", pair, climb(pact, *pair)) for pair in rng.sample(rows, min(3, len(rows)))]
    if hopeless_run(pact) is not None:
        sheets.append(("hopeless", (), hopeless_run(pact)))
    for heard in (random_asks(rng, pact), rising_asks(rng, pact)):
        sheets.append(("heard", (heard, heard_liars(pact, heard)), heard_run(pact, heard)))
        sheets.append(("filled", (heard, filling_liars(pact, heard)), filling_run(pact, heard)))
    return sheets


def changes(value):
    """The value changed at one place: other things there, lists for tuples, something missing or twice."""
    if isinstance(value, tuple):
        yield list(value)
        yield value + (None,)
        yield value[::-1]
        if value:
            yield value[:-1]
            yield value[1:]
            yield value + value[-1:]
        for at, thing in enumerate(value):
            for other in changes(thing):
                yield value[:at] + (other,) + value[at + 1:]
    elif isinstance(value, int):
        yield from (value + 1, value - 1, value == 1, None, str(value))
    elif isinstance(value, str):
        yield from ("x", "", value + value, True, None, (value,), 0)
    else:
        yield from (0, True, "a", (), ("a",))


def has_list(value):
    """Whether a list is anywhere within a value."""
    return isinstance(value, list) or isinstance(value, tuple) and any(map(has_list, value))


def with_more_waits(pact, rng):
    """The pact with more waits and all notes as its paper, so that more holds."""
    notes, names = [], []
    for name, hand, waits in pact.notes:
        notes.append((name, hand, tuple(sorted({*waits, *rng.sample(names, len(names) // 2)}))))
        names.append(name)
    return Pact(pact.hands, notes, pact.ready, tuple(sorted(names)))
