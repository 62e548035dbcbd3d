"""Which hands a pact bears to lie together, and what shows it."""

from boundorvoid.climbs import row_fault, row_holds
from boundorvoid.court import Just, Torn, check_court, court
from boundorvoid.families import barred_lots, family_fault, family_of
from boundorvoid.lots import lies_within, parts_of, sized_order, without
from boundorvoid.pacts import hand_lot, has_hand, key_level, need_hands
from boundorvoid.reaches import asked_rows, highest_levels, ready_numbers, table_places, wronged_hands


def failing_rows(pact):
    """The pairs of a hand and a row that fails from it, though it holds with any one of its hands left out."""
    hands = hand_lot(pact)
    rows = asked_rows(hands, (hands,), ())
    found = []
    fails = {hand: failing_from(pact, hand, rows) for hand in hands}
    for row in rows:
        for hand in hands:
            failing = fails[hand]
            if row in failing and not any([without(row, other) in failing for other in row]):
                found.append((hand, row))
    return tuple(found)


def failing_from(pact, hand, rows):
    """Those of all rows that fail from a hand; each row stands behind its first parts."""
    ends = {(): pact.note_numbers[pact.ready[pact.hand_numbers[hand]]]}
    failing = {}
    for row in rows:
        number = pact.hand_numbers[row[-1]]
        own = pact.rows[number]
        ahead = ends[row[:-1]]
        level = len(own) if ahead is None else pact.nexts[ahead][number]
        ends[row] = own[level] if level < len(own) else None
        if level > key_level(pact, number):
            failing[row] = True
    return failing


def bears_lot(pact, lot):
    """Whether the pact is just if the hands of a lot, and of all its parts, may lie together."""
    need_hands(pact, lot)
    return not wronged_hands(pact, _levels_within(pact, lot))


def _levels_within(pact, lot):
    """The highest levels of all hands for the parts of a lot."""
    return highest_levels(pact, ready_numbers(pact), table_places(hand_lot(pact), parts_of(lot)))


def wronged_by(pact, lot):
    """The lot of the hands outside a lot with which a failing row ends whose others are all of the lot."""
    need_hands(pact, lot)
    return tuple(wronged_hands(pact, _levels_within(pact, lot)).get(lot, []))


def _borne_lots(pact):
    """All lots of hands that the pact bears, those of fewer hands first."""
    hands = hand_lot(pact)
    wronged = wronged_hands(pact, _levels_within(pact, hands))
    borne = {}
    for lot in parts_of(hands):
        if lot not in wronged and all([without(lot, hand) in borne for hand in lot]):
            borne[lot] = True
    return borne


def least_barred(pact):
    """The lots that the pact does not bear, but would with any one hand left out."""
    borne = _borne_lots(pact)
    barred = [lot for lot in parts_of(hand_lot(pact)) if lot not in borne]
    return tuple([lot for lot in barred if all([without(lot, hand) in borne for hand in lot])])


def greatest_family(pact):
    """The family of all lots that the pact bears; None if it bears none."""
    borne = _borne_lots(pact)
    return family_of(list(borne)) if borne else None


def least_meets(lots):
    """The lots that have something in common with each of some lots, but would not without any one name."""
    names = tuple(sorted(list({name: True for lot in lots for name in lot})))
    found = []
    for part in parts_of(names):
        if _meets_all(part, lots) and not any([lies_within(other, part) for other in found]):
            found.append(part)
    return tuple(found)


def _meets_all(part, lots):
    return all([any([name in lot for name in part]) for lot in lots])


def trusted_lots(pact):
    """The lots without which all other hands are borne, but with no hand fewer."""
    family = greatest_family(pact)
    if family is None:
        return ()
    return tuple(sized_order([tuple([hand for hand in hand_lot(pact) if hand not in lot]) for lot in family]))


def liars_borne(pact):
    """The greatest number of hands any of whom may lie together; -1 if not even nobody may."""
    borne = _borne_lots(pact)
    barred = [len(lot) for lot in parts_of(hand_lot(pact)) if lot not in borne]
    return min(barred, default=len(pact.hands) + 1) - 1


def borne_paper(pact):
    """The greatest family that the pact bears, and what the court finds for it and for each least barred lot."""
    family = greatest_family(pact)
    torn = [court(pact, (lot,)) for lot in least_barred(pact)]
    if family is None:
        return None, tuple(torn)
    return family, (court(pact, family), *torn)


def borne_holds(pact, value):
    """Whether any value is a family, or None, with what shows that it is the greatest one borne."""
    if not isinstance(value, tuple) or len(value) != 2 or not isinstance(value[1], tuple):
        return False
    family, papers = value
    if family is None:
        return _are_torn(pact, ((),), papers)
    if family_fault(pact, family) is not None or not papers or not isinstance(papers[0], Just):
        return False
    return check_court(pact, family, papers[0]) and _are_torn(pact, barred_lots(hand_lot(pact), family), papers[1:])


def _are_torn(pact, lots, papers):
    """Whether some values show one after another that some lots wrong a hand."""
    if len(papers) != len(lots):
        return False
    return all([_is_torn_by(pact, lot, paper) for lot, paper in zip(lots, papers)])


def _is_torn_by(pact, lot, paper):
    """Whether any value is a hand and a row that fails from it and has just a lot ahead of its last hand."""
    if not isinstance(paper, Torn) or not has_hand(pact, paper.hand) or row_fault(pact, paper.row) is not None:
        return False
    return tuple(sorted(paper.row[:-1])) == lot and not row_holds(pact, paper.hand, paper.row)
