"""Runs: notes that are sent and hands that ask; what the notary hears of them."""

from boundorvoid.errors import InvalidAsk, InvalidRun
from boundorvoid.moments import moment_fault
from boundorvoid.pacts import has_hand, has_note, key_note, lot_mask, mask_told

SEND = "send"
ASK = "ask"
BOUND = "bound"
VOID = "void"
HEARD_PARTS = 2
HISTORY_PARTS = 3


def is_answer(value):
    """Whether any value is an answer."""
    return isinstance(value, str) and value in (BOUND, VOID)


def need_run(pact, value):
    """A value that is a run, as it is."""
    fault = run_fault(pact, value)
    if fault is not None:
        raise InvalidRun(fault)
    return value


def run_fault(pact, value):
    """The first wrong event of any value that should be a run, -1 for what is no tuple; None for a run."""
    if not isinstance(value, tuple):
        return -1
    sent = 0
    for at, event in enumerate(value):
        if not _is_send(pact, event, sent) and not is_ask(pact, event, sent):
            return at
        if event[0] == SEND:
            sent = sent | 1 << pact.note_numbers[event[1]]
    return None


def _is_send(pact, event, sent):
    """Whether any value is the sending of a note that can be sent next."""
    if not isinstance(event, tuple) or len(event) != 2 or event[0] != SEND or not has_note(pact, event[1]):
        return False
    number = pact.note_numbers[event[1]]
    return pact.unders[number] & ~sent == 1 << number


def is_ask(pact, event, sent):
    """Whether any value is an ask that shows nothing but what is sent."""
    if not isinstance(event, tuple) or len(event) != 3 or event[0] != ASK or not has_hand(pact, event[1]):
        return False
    return moment_fault(pact, event[2]) is None and lot_mask(pact, event[2]) & ~sent == 0


def first_asks(run):
    """The events of a run in which a hand asks for the first time, each with its number ahead: (at, hand, moment)."""
    asks = []
    asked = {}
    for at, event in enumerate(run):
        if event[0] == ASK and event[1] not in asked:
            asked[event[1]] = True
            asks.append((at, event[1], event[2]))
    return asks


def run_heard(pact, run):
    """The first asks of a run: all that the notary goes by."""
    return tuple([(hand, moment) for _, hand, moment in first_asks(need_run(pact, run))])


def run_liars(pact, run):
    """The lot of the hands that lie in a run."""
    need_run(pact, run)
    sent = 0
    asked = {}
    liars = {}
    for event in run:
        if event[0] == SEND:
            number = pact.note_numbers[event[1]]
            sent = sent | 1 << number
            hand = pact.notes[number][1]
            lies = hand in asked
        else:
            hand = event[1]
            own = sent & pact.row_masks[pact.hand_numbers[hand]]
            lies = hand in asked or own & ~lot_mask(pact, event[2]) != 0
            asked[hand] = True
        if lies:
            liars[hand] = True
    return tuple(sorted(liars))


def need_heard(pact, value):
    """A value that is a heard, as it is."""
    _need_asks(pact, value, HEARD_PARTS)
    return value


def need_history(pact, value):
    """A value that is a history, as it is."""
    _need_asks(pact, value, HISTORY_PARTS)
    return value


def _need_asks(pact, value, many):
    fault = asks_fault(pact, value, many)
    if fault is not None:
        raise InvalidAsk(fault)


def asks_fault(pact, value, many):
    """The first wrong place of any value that should be asks of unlike hands, of so many things each; None for such."""
    if not isinstance(value, tuple):
        return -1
    asked = {}
    for at, thing in enumerate(value):
        if not is_told(pact, thing, many) or thing[0] in asked:
            return at
        asked[thing[0]] = True
    return None


def is_told(pact, thing, many):
    """Whether any value is a tuple of a hand and a moment, and, as third of three things, an answer."""
    if not isinstance(thing, tuple) or len(thing) != many or not has_hand(pact, thing[0]):
        return False
    if many == HISTORY_PARTS and not is_answer(thing[2]):
        return False
    return moment_fault(pact, thing[1]) is None


def heard_liars(pact, heard):
    """The lot of those hands of a heard of whom a note is shown that they did not show."""
    need_heard(pact, heard)
    shown = shown_mask(pact, heard)
    liars = []
    for hand, moment in heard:
        own = shown & pact.row_masks[pact.hand_numbers[hand]]
        if own & ~lot_mask(pact, moment):
            liars.append(hand)
    return tuple(sorted(liars))


def shown_mask(pact, asks):
    """The bits of all notes that are shown in a heard, or in a history."""
    shown = 0
    for ask in asks:
        shown = shown | lot_mask(pact, ask[1])
    return shown


def asks_of(history):
    """The heard of a history."""
    return tuple([(hand, moment) for hand, moment, _ in history])


def told_answer(history, hand):
    """What a hand was told in a history; None for one that is not in it."""
    for other, _, answer in history:
        if other == hand:
            return answer
    return None


def first_bound(history):
    """The number of the first entry that tells bound, or None."""
    for at, (_, _, answer) in enumerate(history):
        if answer == BOUND:
            return at
    return None


def heard_run(pact, heard):
    """The run with a heard in which nothing is sent but what is shown, just ahead of this."""
    need_heard(pact, heard)
    events = []
    sent = 0
    for hand, moment in heard:
        shown = lot_mask(pact, moment)
        events.extend(sends_of(pact, shown & ~sent))
        events.append((ASK, hand, moment))
        sent = sent | shown
    return tuple(events)


def sends_of(pact, mask):
    """The events that send the notes of a mask, in told order."""
    return [(SEND, name) for name in mask_told(pact, mask)]


def filling_liars(pact, heard):
    """The lot of those who lie in a run with a heard in which all of the whole paper is sent."""
    liars = list(heard_liars(pact, heard))
    for hand, moment in heard:
        if key_note(pact, hand) not in moment and hand not in liars:
            liars.append(hand)
    return tuple(sorted(liars))


def filling_run(pact, heard):
    """The run of a heard, and behind it all that is left of the whole paper."""
    events = list(heard_run(pact, heard))
    events.extend(sends_of(pact, pact.whole & ~shown_mask(pact, heard)))
    return tuple(events)
