"""Whether what was asked and answered can still come right, whoever of a family lies."""

from boundorvoid.climbs import climb_from, leads_through, row_fault
from boundorvoid.dooms import part_failing_from
from boundorvoid.errors import Refused
from boundorvoid.families import in_family, need_family
from boundorvoid.lots import parts_of
from boundorvoid.pacts import hand_lot, lot_mask, mask_lot
from boundorvoid.reaches import are_in_paper, are_levels, asked_rows, highest_levels, levels_table, table_places
from boundorvoid.runs import VOID, asks_of, filling_liars, filling_run, first_bound, heard_liars, heard_run
from boundorvoid.runs import need_history, shown_mask, told_answer
from boundorvoid.wrongs import PARTED, UNREADY


class Safe:
    """Some rule that gives these answers is wrong in no run that begins with these asks; the table shows it."""

    def __init__(self, table):
        self.table = table

    def __eq__(self, other):
        return isinstance(other, Safe) and self.table == other.table


class Lost:
    """Every rule that gives these answers wrongs the hand, or one of the row, in some run with these asks."""

    def __init__(self, hand, note, row):
        self.hand = hand
        self.note = note
        self.row = row

    def __eq__(self, other):
        return (isinstance(other, Lost) and self.hand == other.hand and self.note == other.note
                and self.row == other.row)


def bound_bars(pact, history):
    """What stands against telling anybody bound: triples of a hand, a word and a note that is missing."""
    need_history(pact, history)
    liars = heard_liars(pact, asks_of(history))
    at = first_bound(history)
    seen = shown_mask(pact, history if at is None else history[:at + 1])
    bars = []
    for hand, ready in zip(pact.hands, pact.ready):
        if hand in liars:
            continue
        if told_answer(history, hand) == VOID:
            bars.append((hand, PARTED, _first_unshown(pact, history, hand)))
        elif not seen >> pact.note_numbers[ready] & 1:
            bars.append((hand, UNREADY, ready))
    return tuple(bars)


def _first_unshown(pact, history, hand):
    """The first own note that a hand of a history did not show, or None."""
    shown = [moment for other, moment, _ in history if other == hand][0]
    for at in pact.rows[pact.hand_numbers[hand]]:
        if pact.names[at] not in shown:
            return pact.names[at]
    return None


def is_possible(pact, family, asks):
    """Whether the liars of a heard may lie together."""
    return in_family(family, heard_liars(pact, asks))


def _need_possible(pact, family, history):
    need_family(pact, family)
    need_history(pact, history)
    if not is_possible(pact, family, asks_of(history)):
        raise Refused("liars")


def prospect(pact, family, history):
    """Whether a history is lost or safe, with what shows it."""
    _need_possible(pact, family, history)
    losers = _early_losers(pact, family, history)
    if losers is None:
        return _prospect_by_rows(pact, family, history)
    if losers:
        return Lost(losers[0], None, ())
    return Safe(())


def _early_losers(pact, family, history):
    """The hands that show a history lost, in their order, none if it is safe; None if that hangs on fresh hands."""
    bars = bound_bars(pact, history)
    if first_bound(history) is not None:
        return [hand for hand, _, _ in bars]
    filling = filling_liars(pact, asks_of(history))
    if not bars or not in_family(family, filling):
        return []
    honest = [hand for hand in pact.hands if hand not in filling and told_answer(history, hand) is not None]
    return honest if honest else None


def _prospect_by_rows(pact, family, history):
    """What becomes of a history behind which only the rows of fresh hands tell."""
    bars = bound_bars(pact, history)
    levels = highest_levels(pact, _bar_numbers(pact, bars), _fresh_places(pact, family, history))
    if are_in_paper(pact, levels):
        return Safe(levels_table(levels))
    for row in asked_rows(_fresh_hands(pact, history), family, filling_liars(pact, asks_of(history))):
        for hand, _, note in bars:
            if not leads_through(pact, note, row):
                return Lost(hand, note, row)


def _bar_numbers(pact, bars):
    return [pact.note_numbers[note] for _, _, note in bars]


def _fresh_hands(pact, history):
    """The lot of the hands that have not asked."""
    return tuple([hand for hand in hand_lot(pact) if told_answer(history, hand) is None])


def _fresh_places(pact, family, history):
    """The lots of fresh hands that may lie with all who must, each with each fresh hand that it lacks."""
    fresh = _fresh_hands(pact, history)
    filling = filling_liars(pact, asks_of(history))
    return table_places(fresh, [lot for lot in parts_of(fresh) if in_family(family, lot + filling)])


def is_lost(pact, family, history):
    """Whether a possible history is lost for a family; nothing is checked."""
    losers = _early_losers(pact, family, history)
    if losers is not None:
        return len(losers) > 0
    starts = _bar_numbers(pact, bound_bars(pact, history))
    return not are_in_paper(pact, highest_levels(pact, starts, _fresh_places(pact, family, history)))


def check_prospect(pact, family, history, value):
    """Whether any value shows that a history is lost, or safe."""
    _need_possible(pact, family, history)
    losers = _early_losers(pact, family, history)
    if isinstance(value, Lost):
        if losers is None:
            return _shows_lost(pact, family, history, value)
        return value.hand in losers and value.note is None and value.row == ()
    if isinstance(value, Safe):
        if losers is None:
            starts = _bar_numbers(pact, bound_bars(pact, history))
            return are_levels(pact, starts, _fresh_places(pact, family, history), value.table)
        return not losers and value.table == ()
    return False


def _shows_lost(pact, family, history, lost):
    """Whether there is such a bar, and such a row of fresh hands that fails from its note."""
    bars = [(hand, note) for hand, _, note in bound_bars(pact, history)]
    if (lost.hand, lost.note) not in bars or row_fault(pact, lost.row) is not None:
        return False
    if any([told_answer(history, hand) is not None for hand in lost.row]):
        return False
    liars = filling_liars(pact, asks_of(history))
    return in_family(family, lost.row[:-1] + liars) and not leads_through(pact, lost.note, lost.row)


def lost_runs(pact, history, lost):
    """Runs in one of which every rule that gives the answers of a lost history is wrong."""
    need_history(pact, history)
    asks = asks_of(history)
    if lost.row:
        return _runs_by_row(pact, asks, lost_asks(pact, history, lost))
    if first_bound(history) is not None:
        return (heard_run(pact, asks),)
    return (filling_run(pact, asks),)


def lost_asks(pact, history, lost):
    """The asks by which the fresh hands of a row show a history lost; none without a row."""
    if not lost.row:
        return ()
    row = part_failing_from(pact, lost.note, lost.row)
    notes = (lost.note, *climb_from(pact, lost.note, row))
    seen = shown_mask(pact, history)
    return tuple([(hand, mask_lot(pact, seen | _paper_not_above(pact, note))) for hand, note in zip(row, notes)])


def _paper_not_above(pact, note):
    """The bits of the notes of the whole paper under which a note does not lie."""
    names = [name for at, name in enumerate(pact.names)
             if pact.whole >> at & 1 and not pact.unders[at] >> pact.note_numbers[note] & 1]
    return lot_mask(pact, names)


def _runs_by_row(pact, asks, more):
    """The runs in which some asks come, and then more of them, one hand after another; last all of the paper."""
    heards = [asks + more[:many] for many in range(1, len(more) + 1)]
    return (*[heard_run(pact, heard) for heard in heards], filling_run(pact, heards[-1]))
