"""What a log shows afterwards: who lied, what may have been sent, and who is to blame."""

from boundorvoid.errors import Refused
from boundorvoid.families import family_barring, in_family, need_family
from boundorvoid.logs import first_history, history_of, need_log
from boundorvoid.lots import greatest_lots, lies_within, parts_of
from boundorvoid.moments import need_moment
from boundorvoid.pacts import all_mask, hand_lot, lot_mask, mask_lot
from boundorvoid.parts import bits_of
from boundorvoid.rightly import first_wrong_answer
from boundorvoid.runs import ASK, sends_of, shown_mask
from boundorvoid.webs import mask_numbers
from boundorvoid.wrongs import run_wrongs

LIARS = "liars"
NOTARY = "notary"


def log_liars(pact, log, found):
    """The lot of the hands of a log that must have lied, if a moment was found to be sent."""
    need_log(pact, log)
    need_moment(pact, found)
    sent = shown_mask(pact, log) | lot_mask(pact, found)
    asked = [hand for hand, _, _ in log]
    liars = []
    for hand, shown, _ in history_of(log):
        own = sent & pact.row_masks[pact.hand_numbers[hand]]
        if asked.count(hand) > 1 or own & ~lot_mask(pact, shown):
            liars.append(hand)
    return tuple(sorted(liars))


def log_run(pact, log, found):
    """The run with the asks of a log in which no more is sent than they show, as late as can be, and what was found."""
    need_log(pact, log)
    need_moment(pact, found)
    events = []
    sent = 0
    for hand, shown, _ in log:
        mask = lot_mask(pact, shown)
        events.extend(sends_of(pact, mask & ~sent))
        events.append((ASK, hand, shown))
        sent = sent | mask
    events.extend(sends_of(pact, lot_mask(pact, found) & ~sent))
    return tuple(events)


def found_bounds(pact, family, log):
    """The greatest moments that may have been sent in the end, if only hands of the family lied."""
    need_family(pact, family)
    liars = log_liars(pact, log, ())
    if not in_family(family, liars):
        raise Refused("liars")
    told = [lot for lot in family if lies_within(liars, lot)]
    return greatest_lots([mask_lot(pact, _mask_with_liars(pact, log, lot)) for lot in told])


def _mask_with_liars(pact, log, liars):
    """The bits of all that may have been sent if the hands of a lot lied, but no others of a log."""
    barred = 0
    for hand, shown, _ in history_of(log):
        if hand not in liars:
            barred = barred | pact.row_masks[pact.hand_numbers[hand]] & ~lot_mask(pact, shown)
    return bits_of([at for at in mask_numbers(all_mask(pact)) if not pact.unders[at] & barred])


def blaming_lots(pact, log):
    """The least lots of hands for whose lying together some answer of a log was wrong."""
    history = first_history(pact, log)
    found = []
    for lot in parts_of(hand_lot(pact)):
        if any([lies_within(other, lot) for other in found]):
            continue
        if first_wrong_answer(pact, (lot,), history) is not None:
            found.append(lot)
    return tuple(found)


def excusing_family(pact, log):
    """The greatest family for which no answer of a log was wrong; None if there is none."""
    return family_barring(hand_lot(pact), blaming_lots(pact, log))


def blame(pact, family, log, found):
    """Who is to blame if the first answers of a log wrong somebody: too many liars, or the notary."""
    need_family(pact, family)
    run = log_run(pact, log, found)
    history = first_history(pact, log)
    if not run_wrongs(pact, run, [answer for _, _, answer in history]):
        return None
    liars = log_liars(pact, log, found)
    if not in_family(family, liars):
        return LIARS, liars
    return NOTARY, first_wrong_answer(pact, family, history)
