"""[1]: what takes any value raises only what is described, whatever it gets."""

import unittest

from boundorvoid import errors
from boundorvoid.alike import walk_note
from boundorvoid.audits import blame, blaming_lots, excusing_family, found_bounds, log_liars, log_run
from boundorvoid.books import Book
from boundorvoid.borne import borne_holds, borne_paper
from boundorvoid.checker import sheet_holds
from boundorvoid.climbs import ladder_holds, need_row
from boundorvoid.court import Just, Torn, check_court, court
from boundorvoid.desk import Desk
from boundorvoid.dooms import depth_run, least_trap, trap_holds
from boundorvoid.families import need_family, read_family
from boundorvoid.forms import retold_pact
from boundorvoid.logs import need_log, read_log
from boundorvoid.moments import moment_at, need_moment, sending_number
from boundorvoid.office import Office, office_after
from boundorvoid.offices import Offices, sized_offices
from boundorvoid.pacts import Pact
from boundorvoid.power import choice_stretch, company_reach, first_choice, voids_for_good
from boundorvoid.prospects import Lost, Safe, check_prospect, prospect
from boundorvoid.receipts import nth_receipt_order, receipt_orders, right_orders, unlogged_asks
from boundorvoid.rightly import first_wrong_answer, right_answers, wrong_rule_run
from boundorvoid.rounds import beats_pact
from boundorvoid.rules import ask_chain, deep_answer, plain_answer, plain_reasons
from boundorvoid.runs import need_heard, need_history, need_run
from boundorvoid.shortest import table_price
from boundorvoid.texts import pact_text, read_pact
from boundorvoid.turns import turns_pact
from boundorvoid.unions import group_moments, need_groups
from boundorvoid.wishes import need_wishes
from boundorvoid.wrongs import replay

from tests.helpers import base_pact
from tests.sheets import changes

PACT, TORN = base_pact(), base_pact("n")
FAMILY, HANDS = (("a",), ("b",)), ("a", "b")
HISTORY = (("a", ("m",), "void"),)
HEARD = (("a", ("m",)), ("b", ("m", "n")))
RUN = (("send", "m"), ("ask", "a", ("m",)), ("send", "n"), ("send", "o"), ("send", "p"))
GOOD = [("m", "n"), ("a", "b"), (("a",), ("b",)), HISTORY, HEARD, RUN, (RUN,), ("m", "n", "o", "p"), (1, 1), (1, 0),
        (("just", (FAMILY,), court(PACT, FAMILY).table)), borne_paper(PACT), least_trap(TORN, FAMILY), ("ask", "b", ()),
        (("ask", "b", ()),), (((("a", "b"), 1), ((), 0))), (("b", ("a", "b"))), ("a", (("x",),)), court(PACT, FAMILY).table,
        PACT.notes, ("x", "y"), (("x", "y"),), (("a", (("x",),)), ("b", (("x",),)))]
TEXTS = [pact_text(PACT), "a\nb", "void a m\nbound b", "pact " + pact_text(PACT).replace("\n", " ; "), "family a ; b",
         "ask a m", "void b", "log", "undo", "", " ", "\n", "void a \n", "hands", "hands a b\n", "ask  ", "\t", "a b\na c"]


def deep(kind, thing):
    for _ in range(30):
        thing = kind([thing])
    return thing


def any_values():
    odd = [None, True, False, 0, 1, -1, 7, 10 ** 40, "", "a", "m", "bound", "zz", [], (), deep(list, "a"), deep(tuple, "a"),
           deep(tuple, ()), PACT, Just(()), Torn("a", ("b",)), Just([["a"]]), Torn(["a"], [PACT]), Safe(None), Safe(()),
           Lost(None, None, None), Lost("a", "o", ("b",)), Lost("a", [], [()]), errors.Refused("x"), (None,) * 3,
           ("a", ["b"]), (("a", ()), [("b", ())]), ((True, False),), (("a", "b"), 1), ((("a",), "a", True),)]
    return odd + TEXTS + GOOD + [other for value in GOOD for other in changes(value)][::7]


def rule_of(value):
    return lambda history, hand, moment: value


def desk_with(value):
    desk = Desk()
    desk.say(TEXTS[3])
    return desk.say(value)


# What is called with any value, and the errors that may come of it.
CALLS = [
    (lambda value: Pact(value, PACT.notes, PACT.ready, PACT.paper), "InvalidPact"),
    (lambda value: Pact(HANDS, value, PACT.ready, PACT.paper), "InvalidPact"),
    (lambda value: Pact(HANDS, PACT.notes, value, PACT.paper), "InvalidPact"),
    (lambda value: Pact(HANDS, PACT.notes, PACT.ready, value), "InvalidPact"),
    (lambda value: Pact(HANDS, [value, value], PACT.ready, PACT.paper), "InvalidPact"),
    (lambda value: retold_pact(PACT, value), "InvalidRow"),
    (read_pact, "InvalidText"), (read_family, "InvalidText"),
    (lambda value: need_moment(PACT, value), "InvalidMoment"),
    (lambda value: moment_at(PACT, value), ""),
    (lambda value: sending_number(PACT, ("m", "n"), value), ""),
    (lambda value: need_run(PACT, value), "InvalidRun"),
    (lambda value: need_heard(PACT, value), "InvalidAsk"),
    (lambda value: need_history(PACT, value), "InvalidAsk"),
    (lambda value: replay(PACT, RUN, rule_of(value)), "Refused"),
    (lambda value: need_row(PACT, value), "InvalidRow"),
    (lambda value: ladder_holds(PACT, "b", ("a", "b"), value), ""),
    (lambda value: need_family(PACT, value), "InvalidFamily"),
    (lambda value: check_court(PACT, FAMILY, value), ""),
    (lambda value: check_court(TORN, FAMILY, Torn(value, value)), ""),
    (lambda value: check_court(PACT, FAMILY, Just(value)), ""),
    (lambda value: plain_answer(PACT, value, "b", ()), "InvalidAsk"),
    (lambda value: plain_reasons(PACT, HISTORY, "b", value), "InvalidMoment"),
    (lambda value: ask_chain(PACT, value, "b", value), "InvalidAsk InvalidMoment Refused"),
    (lambda value: deep_answer(PACT, HISTORY, "b", (), depth=value), "InvalidSize"),
    (lambda value: trap_holds(TORN, FAMILY, value), ""),
    (lambda value: depth_run(PACT, FAMILY, value), "InvalidSize"),
    (lambda value: prospect(PACT, FAMILY, value), "InvalidAsk Refused"),
    (lambda value: check_prospect(PACT, FAMILY, HISTORY, value), ""),
    (lambda value: check_prospect(PACT, FAMILY, HISTORY, Lost(value, value, value)), ""),
    (lambda value: right_answers(PACT, FAMILY, value, "b", value), "InvalidAsk InvalidMoment Refused"),
    (lambda value: first_wrong_answer(PACT, FAMILY, value), "InvalidAsk"),
    (lambda value: wrong_rule_run(PACT, FAMILY, value, rule_of("void")), "InvalidAsk Refused"),
    (lambda value: borne_holds(PACT, value), ""),
    (lambda value: turns_pact(HANDS, value), "InvalidRow Refused"),
    (lambda value: need_wishes(HANDS, value), "InvalidRow"),
    (lambda value: table_price(HANDS, (("a", "b"),), (1, 1), value), ""),
    (lambda value: beats_pact(HANDS, value), "InvalidRow Refused"),
    (lambda value: Offices(value, value, value, value), "InvalidOffices"),
    (lambda value: Offices(("x", "y"), value, value, value), "InvalidOffices"),
    (lambda value: Offices(("x", "y"), (), value, value), "InvalidOffices"),
    (lambda value: Offices(("x", "y"), (), (("a", (("x",),)), ("b", (("x",),))), value), "InvalidOffices"),
    (lambda value: sized_offices(("x", "y"), HANDS, value, value), "InvalidSize"),
    (lambda value: need_groups(PACT, value), "InvalidRow"),
    (lambda value: group_moments(PACT, value, "a", ("a",)), "InvalidRow"),
    (lambda value: voids_for_good(PACT, ("m",), value), ""),
    (lambda value: company_reach(PACT, ("a",), value), "InvalidMoment"),
    (lambda value: choice_stretch(PACT, FAMILY, value), "InvalidRow"),
    (lambda value: first_choice(PACT, value, rule_of("void")), "InvalidRow"),
    (lambda value: first_choice(PACT, ("m", "n", "o", "p"), rule_of(value)), "Refused"),
    (lambda value: need_log(PACT, value), "InvalidAsk"),
    (lambda value: read_log(PACT, value), "InvalidText InvalidAsk"),
    (lambda value: log_liars(PACT, value, value), "InvalidAsk InvalidMoment"),
    (lambda value: log_run(PACT, HISTORY, value), "InvalidMoment"),
    (lambda value: found_bounds(PACT, FAMILY, value), "InvalidAsk Refused"),
    (lambda value: blaming_lots(PACT, value), "InvalidAsk"),
    (lambda value: excusing_family(PACT, value), "InvalidAsk"),
    (lambda value: blame(PACT, FAMILY, HISTORY, value), "InvalidMoment"),
    (lambda value: receipt_orders(PACT, value), "InvalidAsk"),
    (lambda value: nth_receipt_order(PACT, value, 0), "InvalidAsk"),
    (lambda value: right_orders(PACT, FAMILY, value), "InvalidAsk Refused"),
    (lambda value: unlogged_asks(PACT, value, "b", value), "InvalidAsk InvalidMoment Refused"),
    (lambda value: walk_note(PACT, "a", value), "InvalidRow"),
    (lambda value: Book(PACT).put(value), ""),
    (lambda value: Book(PACT).put(("torn", (FAMILY,), value)), ""),
    (lambda value: Book(PACT).knows(value, value), ""),
    (lambda value: Book(PACT).knows("not kept", value), ""),
    (lambda value: Office(PACT, value), "InvalidFamily"),
    (lambda value: Office(PACT, FAMILY).ask("a", value), "InvalidMoment"),
    (lambda value: Office(PACT, FAMILY).tell("a", ("m",), value), "Refused"),
    (lambda value: office_after(PACT, FAMILY, value), "InvalidAsk"),
    (lambda value: Desk().say(value), "InvalidCommand InvalidText"),
    (desk_with, "InvalidCommand InvalidText InvalidFamily InvalidMoment NoName Refused"),
] + [(lambda value, kind=kind, question=question: sheet_holds(PACT, kind, question, value), "")
     for kind, question in (("just", (FAMILY,)), ("torn", (FAMILY,)), ("unkept", (FAMILY, HANDS)), ("trap", (FAMILY,)),
                            ("ladder", ("a", ("b",))), ("hopeless", ()), ("borne", ()), ("heard", (HEARD, ("a",))),
                            ("filled", (HEARD, ())), ("safe", (FAMILY, HISTORY)), ("lost", (FAMILY, HISTORY)))
     ] + [(lambda value, kind=kind: sheet_holds(PACT, kind, value, value), "")
          for kind in ("just", "unkept", "ladder", "hopeless", "heard", "safe", None, ("just",))]


class AnyValueTest(unittest.TestCase):
    def test_only_what_is_described_is_raised(self):
        values = any_values()
        self.assertGreater(len(values), 200)
        good = 0
        for at, (call, told) in enumerate(CALLS):
            allowed = tuple(getattr(errors, name) for name in told.split())
            for value in values:
                try:
                    call(value)
                    good += 1
                except Exception as wrong:
                    self.assertIn(wrong.__class__, allowed, (at, value))
        self.assertGreater(good, 5000)


if __name__ == "__main__":
    unittest.main()
