"""What is missing for a pact to be just: waits, other orders, more notes."""

from boundorvoid.climbs import climb, row_holds
from boundorvoid.court import Just, court, court_rows
from boundorvoid.drafts import draft_of, is_draft_just, judged_by, with_wait
from boundorvoid.errors import InvalidPact, Refused
from boundorvoid.families import need_family
from boundorvoid.heights import last_note, next_note
from boundorvoid.orders import least_just_order
from boundorvoid.pacts import Pact, hand_lot, hand_number, key_note, lies_under, lot_mask, note_number
from boundorvoid.pacts import notes_of, ready_note, under_of, whole_paper
from boundorvoid.parts import MOST_NOTES
from boundorvoid.turns import note_name
from boundorvoid.wants import Wants, least_turns
from boundorvoid.wishes import most_wishes


def wider_pact(pact, waits):
    """The pact with more waits, its notes in the least order that these allow."""
    for note, wait in waits:
        note_number(pact, note)
        note_number(pact, wait)
    told = {name: lot for name, _, lot in pact.notes}
    for note, wait in waits:
        told[note] = tuple(sorted(list({name: True for name in (*told[note], wait)})))
    notes = []
    for name in _least_order(pact, told):
        notes.append((name, pact.notes[pact.note_numbers[name]][1], told[name]))
    return Pact(pact.hands, notes, pact.ready, pact.paper)


def _least_order(pact, told):
    """All notes, each behind those that it is told to wait for and its hand's last one ahead."""
    ahead = {name: lot_mask(pact, lot) for name, lot in told.items()}
    for row in pact.rows:
        for one, other in zip(row, row[1:]):
            ahead[pact.names[other]] = ahead[pact.names[other]] | 1 << one
    order = []
    sent = 0
    while len(order) < len(pact.names):
        free = [at for at in pact.by_name if not sent >> at & 1 and not ahead[pact.names[at]] & ~sent]
        if not free:
            raise Refused("ring")
        order.append(pact.names[free[0]])
        sent = sent | 1 << free[0]
    return order


def row_rectangles(pact, hand, row):
    """The pairs of lots between which one more wait makes a row hold: what is to be waited for, and what waits."""
    climbed = (ready_note(pact, hand), *climb(pact, hand, row))
    found = []
    for note, below in zip(climbed, (*_descent_down(pact, row), whole_paper(pact))):
        if below is not None:
            found.append((_over(pact, note), below))
    return tuple(found)


def _descent_down(pact, row):
    """For each hand of a row what lies under its note in the descent; None where that is missing."""
    note = key_note(pact, row[-1])
    lots = [under_of(pact, note)]
    for hand in reversed(row[:-1]):
        note = None if note is None else last_note(pact, hand, note)
        lots.append(None if note is None else under_of(pact, note))
    return lots[::-1]


def _over(pact, note):
    """The lot of all notes under which a note lies."""
    return tuple([name for name in sorted(pact.names) if lies_under(pact, note, name)])


def one_waits(pact, family):
    """All pairs of notes, neither under the other, such that the pact is just if the first one waits for the second."""
    found = court(pact, family)
    apart = [(note, wait) for note in sorted(pact.names) for wait in sorted(pact.names)
             if not lies_under(pact, note, wait) and not lies_under(pact, wait, note)]
    if isinstance(found, Just):
        # More waits never hurt.
        return tuple(apart)
    places = row_rectangles(pact, found.hand, found.row)
    mending = [(note, wait) for note, wait in apart if any([wait in over and note in below for over, below in places])]
    draft = draft_of(pact)
    judged = judged_by(pact, family)
    numbers = pact.note_numbers
    return tuple([(note, wait) for note, wait in mending
                  if is_draft_just(with_wait(draft, numbers[note], numbers[wait]), judged)])


def row_waits(pact, hand, row):
    """Some of the fewest pairs of a note and a wait with which a row holds from a hand; None if none do."""
    if row_holds(pact, hand, row):
        return ()
    found = []
    for notes, waits in _walks(pact, hand, row):
        if lies_under(pact, notes[-1], key_note(pact, row[-1])):
            found.append(waits)
        else:
            found.extend([waits + ((note, notes[-1]),) for note in _notes_past(pact, notes, whole_paper(pact))[:1]])
    return min(found, key=len, default=None)


def _walks(pact, hand, row):
    """All walks along a row, by next notes and by waits: pairs of the notes and the waits."""
    walks = [((ready_note(pact, hand),), ())]
    for other in row:
        longer = []
        for notes, waits in walks:
            above = next_note(pact, other, notes[-1])
            if above is not None:
                longer.append(((*notes, above), waits))
            for note in _notes_past(pact, notes, notes_of(pact, other))[:1]:
                longer.append(((*notes, note), (*waits, (note, notes[-1]))))
        walks = longer
    return walks


def _notes_past(pact, notes, others):
    """Those of other notes that lie under none of some notes."""
    return [other for other in others if not any([lies_under(pact, other, note) for note in notes])]


def just_order(pact, family):
    """The least order of all notes in which the pact, if each waits for all ahead, is just; None if there is none."""
    need_family(pact, family)
    return least_just_order(pact, family)


def behind_pact(pact, row):
    """The pact with more notes behind all others, one for each hand of a row, and all notes as its paper."""
    for hand in row:
        hand_number(pact, hand)
    if len(pact.notes) + len(row) > MOST_NOTES:
        raise InvalidPact("notes")
    notes = list(pact.notes)
    names = list(pact.names)
    number = 0
    for hand in row:
        while note_name(number) in names:
            number = number + 1
        notes.append((note_name(number), hand, tuple(sorted(names))))
        names.append(note_name(number))
    return Pact(pact.hands, notes, pact.ready, tuple(sorted(names)))


def turns_behind(pact, family):
    """The shortest turns, of these the least, behind which the pact is just with all notes as its paper."""
    rows = []
    for row in court_rows(pact, family):
        rows.extend([row[len(climb(pact, hand, row)):] for hand in pact.hands])
    hands = hand_lot(pact)
    return least_turns(Wants(hands, most_wishes(rows)), hands)
