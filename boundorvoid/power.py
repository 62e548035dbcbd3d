"""What hands that act together can still bring about at a moment, if the notary keeps the plain rule."""

from boundorvoid.borne import bears_lot
from boundorvoid.climbs import row_moments
from boundorvoid.court import is_just
from boundorvoid.errors import NoName, Refused
from boundorvoid.families import all_lots, need_family
from boundorvoid.heights import closure_of
from boundorvoid.lots import lies_within, parts_of, sized_order
from boundorvoid.moments import moment_mask, need_moment, need_order
from boundorvoid.pacts import above_mask, hand_lot, hand_of, key_note, lot_mask, mask_lot, mask_told
from boundorvoid.parts import bits_of, joined_mask
from boundorvoid.reaches import asked_rows, highest_levels, ready_numbers, table_places
from boundorvoid.rules import told_plainly
from boundorvoid.runs import ASK, BOUND, VOID, is_ask, told_answer
from boundorvoid.webs import mask_numbers
from boundorvoid.wrongs import PAPER, UNREADY, answer_by

CHOICE = "choice"


def _need_company(pact, lot):
    """Refuse a lot of hands who cannot act together, and first of all strange names."""
    if not lot or not bears_lot(pact, lot) and (len(lot) > 1 or not bears_lot(pact, ())):
        raise Refused("lot")


def _need_just(pact, family):
    need_family(pact, family)
    if not is_just(pact, family):
        raise Refused("torn")


def _own_mask(pact, lot):
    """The bits of all notes of the hands of a lot."""
    return sum([pact.row_masks[pact.hand_numbers[hand]] for hand in lot])


def company_reach(pact, lot, moment):
    """The greatest moment that comes if only the hands of a company send more."""
    _need_company(pact, lot)
    return mask_lot(pact, _reach_mask(pact, lot, moment_mask(pact, moment)))


def _reach_mask(pact, lot, mask):
    own = _own_mask(pact, lot)
    return mask | bits_of([at for at in mask_numbers(own) if not pact.unders[at] & ~mask & ~own])


def readies_moment(pact):
    """The ready notes, and all that lies under them."""
    return closure_of(pact, pact.ready)


def _readies_mask(pact):
    return joined_mask(pact.unders, ready_numbers(pact))


def turning_note(pact, lot, hand):
    """The highest note of a hand of a company to which climbs come by all of its hands, this one last."""
    _need_company(pact, lot)
    if hand not in lot:
        raise NoName(hand)
    return pact.names[_turning_numbers(pact, lot)[lot.index(hand)]]


def _turning_numbers(pact, lot):
    """The numbers of the turning notes of the hands of a company, in their order."""
    levels = highest_levels(pact, ready_numbers(pact), table_places(lot, parts_of(lot)))
    return _numbers_at(pact, levels, lot)


def _numbers_at(pact, levels, lot):
    """The number of each hand's note at its level in a lot."""
    return [pact.rows[pact.hand_numbers[hand]][levels[(lot, hand)]] for hand in lot]


def can_bind(pact, lot, moment):
    """Whether a company can send all ready notes that are missing."""
    _need_company(pact, lot)
    return _binds(pact, lot, moment_mask(pact, moment))


def _binds(pact, lot, mask):
    return not _readies_mask(pact) & ~_reach_mask(pact, lot, mask)


def can_void(pact, lot, moment):
    """Whether some hand of a company has not sent its turning note."""
    _need_company(pact, lot)
    return _voids(pact, lot, moment_mask(pact, moment))


def _voids(pact, lot, mask):
    return bits_of(_turning_numbers(pact, lot)) & ~mask != 0


def voiding_way(pact, lot, moment):
    """Asks of hands of a company behind which nobody is told bound unless one sends more; None if it cannot void."""
    _need_company(pact, lot)
    mask = moment_mask(pact, moment)
    if not _voids(pact, lot, mask):
        return None
    for row in asked_rows(lot, (lot,), ()):
        for hand in hand_lot(pact):
            if not mask >> _climb_end(pact, hand, row) & 1:
                return _asks_in_turn(pact, hand, row, mask)


def _climb_end(pact, hand, row):
    """The number of the last note of a climb of hands of a company, which is always whole."""
    number = ready_numbers(pact)[pact.hand_numbers[hand]]
    for other in row:
        owner = pact.hand_numbers[other]
        number = pact.rows[owner][pact.nexts[number][owner]]
    return number


def _asks_in_turn(pact, hand, row, mask):
    """The asks of the hands of a row, who show what the row's moments have of a moment."""
    moments = row_moments(pact, hand, row)
    return tuple([(ASK, other, mask_lot(pact, lot_mask(pact, own) & mask)) for other, own in zip(row, moments)])


def voids_for_good(pact, moment, value):
    """Whether any value is asks that are all told void, one of a hand that must send more for any bound."""
    need_moment(pact, moment)
    if not isinstance(value, tuple):
        return False
    mask = lot_mask(pact, moment)
    history = ()
    for event in value:
        if not is_ask(pact, event, mask) or told_answer(history, event[1]) is not None:
            return False
        _, hand, shown = event
        if told_plainly(pact, history, hand, shown) != VOID:
            return False
        history = history + ((hand, shown, VOID),)
    return any([_stops_short(pact, moment, hand, shown) for hand, shown, _ in history])


def _stops_short(pact, moment, hand, shown):
    """Whether a hand shows all its own notes of a moment that lacks its key note."""
    own = lot_mask(pact, moment) & _own_mask(pact, (hand,))
    return key_note(pact, hand) not in moment and not own & ~lot_mask(pact, shown)


def _companies(pact, family):
    """The companies of a family, those of fewer hands first, then ascending, with the bits of their turning notes."""
    lots = all_lots(family)
    levels = highest_levels(pact, ready_numbers(pact), table_places(hand_lot(pact), lots))
    told = {lot: True for lot in [*lots, *[(hand,) for hand in pact.hands]] if lot}
    return {lot: bits_of(_numbers_at(pact, levels, lot)) for lot in sized_order(list(told))}


def choosing_lots(pact, family, moment):
    """The companies of a family that can choose, while no other company within them can."""
    _need_just(pact, family)
    mask = moment_mask(pact, moment)
    found = []
    for lot, turning in _companies(pact, family).items():
        if turning & ~mask and _binds(pact, lot, mask) and not any([lies_within(other, lot) for other in found]):
            found.append(lot)
    return tuple(found)


def settled_moment(pact, family):
    """The moment behind which no company of a family can void."""
    _need_just(pact, family)
    return mask_lot(pact, _settled_mask(pact, _companies(pact, family)))


def _settled_mask(pact, companies):
    turning = 0
    for mask in companies.values():
        turning = turning | mask
    return joined_mask(pact.unders, mask_numbers(turning))


def choice_stretch(pact, family, order):
    """When some company of a family can choose, if the whole paper is sent in an order: from when on, until when."""
    _need_just(pact, family)
    need_order(pact, order, pact.whole)
    companies = _companies(pact, family)
    settled = _settled_mask(pact, companies)
    masks = [lot_mask(pact, order[:many]) for many in range(len(order) + 1)]
    binding = [any([_binds(pact, lot, mask) for lot in companies]) for mask in masks]
    return binding.index(True), [not settled & ~mask for mask in masks].index(True)


def first_choice(pact, order, rule):
    """Where a rule first says bound to somebody who shows all that is sent in an order, or what is wrong with it."""
    need_order(pact, order, pact.whole)
    for many in range(len(order) + 1):
        shown = tuple(sorted(order[:many]))
        for hand in pact.hands:
            if answer_by(rule, (), hand, shown) == BOUND:
                return _choice_behind(pact, order[:many], hand)
    return PAPER, pact.hands[0]


def _choice_behind(pact, sent, hand):
    """Where a hand has the choice if it is the first that is told bound, when so much is sent."""
    if not sent:
        return UNREADY, hand
    return CHOICE, len(sent) - 1 if hand_of(pact, sent[-1]) == hand else len(sent), hand


def _order_by(pact, masks):
    """The order of the whole paper in which what some masks have comes first, mask by mask, in told order."""
    order = []
    left = pact.whole
    for mask in [*masks, pact.whole]:
        order.extend(list(mask_told(pact, mask & left)))
        left = left & ~mask
    return tuple(order)


def least_stretch(pact, family):
    """How few times some company can choose, and an order in which this is so."""
    _need_just(pact, family)
    companies = _companies(pact, family)
    settled = _settled_mask(pact, companies)
    # A lot that lies within no company cannot bind as long as the last ready notes of all its hands are kept back.
    lots = [lot for lot in parts_of(hand_lot(pact)) if not any([lies_within(lot, other) for other in companies])]
    if not lots:
        return len(mask_numbers(settled)), _order_by(pact, [settled])
    kept = [settled & _above_readies(pact, lot) for lot in lots]
    # Of as few notes the first lot is taken: within it lies no other one of them.
    held = min(kept, key=lambda mask: len(mask_numbers(mask)))
    return len(mask_numbers(held)) - 1, _order_by(pact, [settled & ~held, held])


def _above_readies(pact, lot):
    """The bits of all notes above the last notes that the hands of a lot have in what the ready notes need."""
    mask = 0
    for hand in lot:
        own = mask_numbers(_readies_mask(pact) & _own_mask(pact, (hand,)))
        mask = mask | above_mask(pact, own[-1])
    return mask


def greatest_stretch(pact, family):
    """How many times some company can choose at most, and an order in which this is so."""
    _need_just(pact, family)
    companies = _companies(pact, family)
    readies = _readies_mask(pact)
    early = [joined_mask(pact.unders, mask_numbers(readies & ~_own_mask(pact, lot))) for lot in companies]
    late = [pact.whole & above_mask(pact, at) for at in mask_numbers(_settled_mask(pact, companies))]
    first = min(early, key=lambda mask: len(mask_numbers(mask)))
    last = min(late, key=lambda bits: len(mask_numbers(bits)))
    many = len(mask_numbers(pact.whole)) + 1 - len(mask_numbers(last)) - len(mask_numbers(first))
    return many, _order_by(pact, [first, pact.whole & ~last])
