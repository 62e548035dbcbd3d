"""[1] and [2], for every function of the interface: what holds of all calls."""

import copy
import importlib
import unittest

from boundorvoid.books import Book
from boundorvoid.borne import borne_paper
from boundorvoid.court import Just, Torn, court
from boundorvoid.desk import Desk
from boundorvoid.office import Office
from boundorvoid.offices import Offices
from boundorvoid.pacts import Pact
from boundorvoid.prospects import Lost, Safe
from boundorvoid.texts import pact_text

from tests.helpers import base_pact
from tests.test_interface import INTERFACE

PACT = base_pact()
# The same names, but other waits, ready notes and paper.
OTHER = Pact(["a", "b"], [("m", "a", ()), ("n", "b", ()), ("o", "a", ()), ("p", "b", ("m",))], ["o", "p"], ("o", "p"))
TORN = base_pact("n")
ALL = ("m", "n", "o", "p")
FAMILY = (("a",), ("b",))
RUN = (("send", "m"), ("ask", "a", ("m",)), ("send", "n"), ("ask", "b", ("m", "n")), ("ask", "a", ()))
HEARD = (("a", ("m",)), ("b", ("m", "n")))
HISTORY = (("a", ("m",), "void"), ("b", ("m", "n"), "bound"))
TURNS = ("a", "b", "a", "b")
WISHES = (("a", "b"), ("b", "a"))
TABLE = (((1, 0), (2, 1)), ((1, 1), (2, 2)))


def rule(history, hand, moment):
    return "bound" if history else "void"


def late_rule(history, hand, moment):
    return "bound" if len(moment) > 2 else "void"


BEATS = (("a", "b"), ("b",), ("a", "b"))
COUNTERS = (("a", (("x",), ("x", "y"))), ("b", (("x", "y"),)))
OFFICES = Offices(("x", "y"), (("x", "y"),), COUNTERS, ((),))
GROUPS = (("a",), ("b",))
BEHIND = Pact(["a", "b"], [("q", "a", ()), ("r", "b", ("q",))], ["q", "r"], ("r",))
CORES = (("a", "b"), (0, 0), (((0, 0), (1, 1)), ((1, 0), (2, 1))))
LOG = HISTORY[:1] + (("b", ("m", "n"), "void"), ("a", ("m",), "bound"))


# What each function is called with, but for the pact; lists stand where sequences are expected.
CALLS = {
    "Pact": [["a", "b"], list(PACT.notes), ["m", "n"], ("p",)],
    "hand_of": ["n"], "notes_of": ["a"], "lies_under": ["m", "p"], "under_of": ["o"], "whole_paper": [],
    "key_note": ["b"], "ready_note": ["b"],
    "closure_of": [("o",)], "level_of": ["o"], "top_of": ["a"], "next_level": ["b", "o"], "next_note": ["b", "o"],
    "last_note": ["a", "p"], "next_levels": ["n"], "clock_of": ["o"], "clocks_of": [], "clock_fault": [TABLE],
    "bare_waits": ["p"], "bare_paper": [], "least_order": [], "bare_form": [], "full_form": [],
    "same_web": [PACT, OTHER], "telling_count": [], "retold_pact": [ALL],
    "clocked_notes": [["a", "b"], [["m", "o"], ["n", "p"]], TABLE],
    "pact_text": [], "read_pact": [pact_text(PACT)],
    "need_moment": [("m",)], "moment_levels": [("m", "n")], "moment_at": [(1, 1)],
    "joined_moment": [[("m",), ("m", "n")]], "met_moment": [[("m",), ("m", "n")]], "moment_tops": [("m", "n")],
    "all_moments": [], "count_sendings": [ALL], "nth_sending": [ALL, 0], "sending_number": [ALL, ALL],
    "need_run": [RUN], "run_heard": [RUN], "run_liars": [RUN], "need_heard": [HEARD], "need_history": [HISTORY],
    "heard_liars": [HEARD], "heard_run": [HEARD], "filling_liars": [HEARD], "filling_run": [HEARD],
    "run_spans": [RUN], "eager_run": [RUN], "late_run": [RUN],
    "replay": [RUN, rule], "run_wrongs": [RUN, ["bound", "void"]], "good_answers": [RUN], "hopeless_run": [],
    "need_row": [("a", "b")], "climb_from": ["m", ("b", "a")], "climb": ["a", ("b", "a")],
    "row_holds": ["a", ("b", "a")], "ladder_holds": ["b", ("a", "b"), ("o", "p")], "descent": [("a", "b")],
    "row_starts": [("a", "b")], "row_moments": ["b", ("a", "b")],
    "need_family": [FAMILY], "in_family": [FAMILY, ("a",)], "all_lots": [FAMILY],
    "family_of": [[("b",), ("a",), ()]], "sized_family": [("a", "b"), 1], "family_join": [FAMILY, ((),)],
    "barred_lots": [("a", "b"), FAMILY], "family_barring": [("a", "b"), [("a", "b")]], "family_text": [FAMILY],
    "read_family": ["a\nb"],
    "Just": [()], "Torn": ["a", ("b",)], "court_rows": [FAMILY], "highest_level": [("a", "b"), "b"],
    "court_table": [FAMILY], "court": [FAMILY], "check_court": [FAMILY, court(PACT, FAMILY)],
    "safe_notes": [FAMILY], "least_paper": [FAMILY],
    "plain_reasons": [HISTORY[:1], "b", ("m",)], "plain_answer": [HISTORY[:1], "b", ("m",)],
    "ask_rank": [HISTORY[:1], "b", ("m",)], "ask_chain": [HISTORY[:1], "b", ("m", "n")],
    "deep_answer": [HISTORY[:1], "b", ("m", "n")],
    "failing_part": ["b", ("a", "b")], "row_trap": ["b", ("a", "b")], "doom_run": ["b", ("a", "b"), rule],
    "wrong_runs": [[RUN, RUN[:2]], rule], "fewest_wrong": [[RUN, RUN]], "trap_holds": [FAMILY, (RUN,)],
    "least_trap": [FAMILY], "coin_depths": [FAMILY], "least_depth": [FAMILY], "depth_run": [FAMILY, 1],
    "Safe": [()], "Lost": ["a", None, ()], "bound_bars": [HISTORY[:1]], "prospect": [FAMILY, HISTORY[:1]],
    "check_prospect": [FAMILY, HISTORY[:1], Safe(((("b",), "b", 1),))], "lost_runs": [HISTORY, Lost("a", None, ())],
    "right_answers": [FAMILY, HISTORY[:1], "b", ("m", "n")], "first_wrong_answer": [FAMILY, HISTORY],
    "wrong_rule_run": [FAMILY, HEARD, rule], "right_rows": [FAMILY, HEARD], "first_limits": [FAMILY],
    "book_entry": [HEARD[:1]], "parting_asks": [HEARD[:1], (("a", ("m", "n", "o")),)], "book_entries": [],
    "failing_rows": [], "bears_lot": [("a",)], "wronged_by": [("a",)], "least_barred": [], "greatest_family": [],
    "least_meets": [[("a", "b"), ("b", "c"), ("b", "c")]], "trusted_lots": [], "liars_borne": [], "borne_paper": [],
    "borne_holds": [borne_paper(PACT)],
    "torn_in": [FAMILY, ("a", "b")], "keeping_answer": [("a",), HISTORY[:1], "b", ("m", "n")],
    "cut_pact": [("a", "b")], "cut_family": [("a",), FAMILY], "least_unkept": [FAMILY], "kept_lots": [FAMILY],
    "spared_lots": [FAMILY], "kept_family": [("a", "b")], "keeping_pairs": [],
    "share_pact": [["a", "b", "c"], (("a", "b"),)],
    "turns_pact": [("a", "b"), TURNS], "pact_turns": [], "lined_pact": [], "part_places": [TURNS, ("a", "b")],
    "turns_lack": [("a", "b"), FAMILY, TURNS[:2]],
    "need_wishes": [("a", "b"), WISHES], "most_wishes": [[("a", "b"), ("a",), ("b",)]],
    "family_wishes": [("a", "b"), FAMILY], "wishes_held": [WISHES, TURNS], "wants_behind": [WISHES, ("a",)],
    "avoiding_turns": [("a", "b"), ("a", "b"), 2], "telling_turns": [("a", "b"), WISHES, ("a",), ("b",)],
    "wishes_machine": [("a", "b"), WISHES], "stretch_count": [("a", "b"), WISHES, 3],
    "turns_count": [("a", "b"), FAMILY, 5], "turns_at": [("a", "b"), FAMILY, 5, 1],
    "turns_place": [("a", "b"), FAMILY, TURNS],
    "fewest_stretch": [("a", "b"), WISHES], "fewest_more": [("a", "b"), FAMILY, ("a",)],
    "next_writers": [("a", "b"), FAMILY, ("a",)], "cheapest_turns": [("a", "b"), FAMILY, (1, 2)],
    "price_table": [("a", "b"), WISHES, (1, 2)],
    "table_price": [("a", "b"), WISHES, (1, 2), ((WISHES, 1), ((), 0))],
    "needless_turns": [("a", "b"), FAMILY, TURNS + ("a",)], "tight_stretches": [("a", "b"), WISHES],
    "tight_turns": [("a", "b"), FAMILY], "turn_reach": [("a", "b"), TURNS], "turn_liars": [("a", "b"), TURNS],
    "rounds_needed": [("a", "b"), FAMILY, ("a", "b")],
    "dropped_pact": [("o",)], "loosened_pact": ["p", "o"], "thin_notes": [FAMILY], "bone_pact": [FAMILY],
    "tight_fault": [((),)], "tight_pact": [((),)],
    "wider_pact": [[("o", "n"), ("p", "m")]], "row_rectangles": ["b", ("a", "b")], "one_waits": [FAMILY],
    "row_waits": ["b", ("a", "b")], "just_order": [FAMILY], "behind_pact": [["a", "b", "a"]],
    "turns_behind": [FAMILY],
    "beats_pact": [("a", "b"), BEATS], "beats_just": [("a", "b"), FAMILY, BEATS], "early_beats": [],
    "fewest_beats": [("a", "b"), FAMILY, 6], "beats_front": [("a", "b"), FAMILY],
    "Offices": [("x", "y"), (("x", "y"),), COUNTERS, ((),)], "ask_known": [OFFICES, ("x",), ("y",), ()],
    "deaf_pair": [OFFICES], "offices_court": [FAMILY, OFFICES], "sized_offices": [("x", "y"), ("a", "b"), 2, 1],
    "alternate_climb": ["a", "a", "b"], "alternate_moments": ["a", "a", "b"],
    "need_groups": [GROUPS], "group_moments": [GROUPS, "b", ("a", "b")], "members_row": [GROUPS, "b", ("a", "b")],
    "group_court": [GROUPS, FAMILY], "merged_pact": [GROUPS], "pacts_behind": [PACT, BEHIND],
    "sum_family": [("a", "b"), FAMILY, ((),)],
    "company_reach": [("a",), ("m", "n")], "readies_moment": [], "turning_note": [("a",), "a"],
    "can_bind": [("b",), ("m",)], "can_void": [("b",), ("m",)], "voiding_way": [("b",), ("m",)],
    "voids_for_good": [("m",), (("ask", "b", ()),)], "choosing_lots": [FAMILY, ("m",)], "settled_moment": [FAMILY],
    "choice_stretch": [FAMILY, ALL], "first_choice": [ALL, late_rule], "least_stretch": [FAMILY],
    "greatest_stretch": [FAMILY],
    "need_log": [LOG], "first_history": [LOG], "log_slip": [LOG], "log_text": [LOG], "read_log": ["void a m\nbound b"],
    "log_liars": [LOG, ("m", "n", "o")], "log_run": [LOG, ("m", "n", "o")], "found_bounds": [FAMILY, LOG],
    "blaming_lots": [LOG], "excusing_family": [LOG], "blame": [FAMILY, LOG, ()],
    "receipt_orders": [HISTORY[:1]], "nth_receipt_order": [HISTORY[:1], 0], "right_orders": [FAMILY, HISTORY[:1]],
    "unlogged_asks": [(), "b", ("m", "n")],
    "walk_note": ["b", ("a", "b", "b")], "longest_walk": ["a"], "walk_apart": [PACT, OTHER],
    "rows_apart": [PACT, OTHER],
    "same_future": ["m", "o"], "core_notes": [], "core_table": [], "core_fault": [CORES], "tabled_pact": [CORES],
    "one_form": [], "turnings": [],
    "sheet_holds": ["just", (FAMILY,), court(PACT, FAMILY).table],
    "Book": [], "Office": [FAMILY], "office_after": [FAMILY, HISTORY], "Desk": [],
}
WHERE_SEQUENCES = {"Pact": (0, 1, 2), "clocked_notes": (0, 1), "joined_moment": (0,), "met_moment": (0,),
                   "run_wrongs": (1,), "family_of": (0,), "family_barring": (1,), "wrong_runs": (0,),
                   "fewest_wrong": (0,), "least_meets": (0,), "share_pact": (0,), "most_wishes": (0,),
                   "wider_pact": (0,), "behind_pact": (0,)}


def interface():
    """Each name with what it leads to, its parameters, and what it is called with behind a pact, if it takes one."""
    for stem, names in INTERFACE.items():
        for name, told in names.items():
            yield name, getattr(importlib.import_module("boundorvoid." + stem), name), told.split(), CALLS[name]


def pact_for(name, parameters):
    """What each call begins with: a pact, if it takes one, for which it returns something."""
    if parameters[:1] != ["pact"]:
        return []
    return [TORN if name in ("row_trap", "doom_run", "least_trap", "coin_depths", "depth_run") else PACT]


def told_of(value):
    """What an object that can change holds now; any other value itself."""
    if isinstance(value, Office):
        return value.pact, value.family, value.log
    if isinstance(value, Book):
        return value.pact, value.sheets
    return value.office if isinstance(value, Desk) else value


def as_tuples(value):
    return tuple(map(as_tuples, value)) if isinstance(value, list) else value


def has_lists(value):
    """Whether some list or set is in what was returned."""
    if isinstance(value, dict):
        return any(map(has_lists, value.values()))
    if isinstance(value, (Pact, Just, Torn, Safe, Lost, Offices)):
        return any(map(has_lists, [getattr(value, name) for name in
                                   ("hands", "notes", "ready", "paper", "names", "table", "hand", "note", "row",
                                    "tells", "counters", "forgets")
                                   if hasattr(value, name)]))
    if isinstance(value, tuple):
        return any(map(has_lists, value))
    return isinstance(value, (list, set))


class PromisesTest(unittest.TestCase):
    def test_every_name_is_tried(self):
        self.assertEqual(set(CALLS), {name for names in INTERFACE.values() for name in names})

    def test_by_position_and_by_name_and_again(self):
        for name, call, parameters, told in interface():
            ahead = pact_for(name, parameters)
            result = told_of(call(*ahead, *told))
            self.assertEqual(told_of(call(**dict(zip(parameters, ahead + told)))), result, name)
            if ahead:
                try:
                    call(OTHER, *told)
                except Exception as wrong:
                    self.assertEqual(wrong.__class__.__module__, "boundorvoid.errors", name)
            self.assertEqual(told_of(call(*ahead, *told)), result, name)
            self.assertFalse(has_lists(result), name)

    def test_sequences_as_lists_or_tuples(self):
        for name, call, parameters, told in interface():
            ahead = pact_for(name, parameters)
            for at in WHERE_SEQUENCES.get(name, ()):
                self.assertIsInstance(told[at], list)
            listed = {at for at, value in enumerate(told) if isinstance(value, list)}
            self.assertEqual(listed, set(WHERE_SEQUENCES.get(name, ())), name)
            self.assertEqual(told_of(call(*ahead, *map(as_tuples, told))), told_of(call(*ahead, *told)), name)

    def test_arguments_are_not_changed_and_not_needed_later(self):
        before = {name: copy.deepcopy(vars(PACT)[name]) for name in vars(PACT)}
        for name, call, parameters, told in interface():
            ahead = pact_for(name, parameters)
            handed = [list(value) if isinstance(value, list) else value for value in told]
            result = told_of(call(*ahead, *handed))
            self.assertEqual(handed, told, name)
            kept = copy.deepcopy(result)
            for value in handed:
                if isinstance(value, list):
                    value.clear()
            self.assertEqual(result, kept, name)
        self.assertEqual(vars(PACT), before)

    def test_dicts_are_new(self):
        call = importlib.import_module("boundorvoid.spans").run_spans
        first = call(PACT, RUN)
        first.clear()
        self.assertEqual(call(PACT, RUN), {"m": (0, 0), "n": (0, 1)})

    def test_truths_are_bools(self):
        tell = {"lies_under", "same_web", "row_holds", "ladder_holds", "in_family", "check_court", "trap_holds",
                "check_prospect", "bears_lot", "borne_holds", "wishes_held", "beats_just", "ask_known", "can_bind",
                "can_void", "voids_for_good", "same_future", "sheet_holds"}
        for name, call, parameters, told in interface():
            ahead = pact_for(name, parameters)
            self.assertEqual(isinstance(call(*ahead, *told), bool), name in tell, name)

    def test_integers_are_no_bools(self):
        for name, call, parameters, told in interface():
            ahead = pact_for(name, parameters)
            if name in {"level_of", "top_of", "next_level", "telling_count", "count_sendings", "sending_number",
                        "highest_level", "ask_rank", "fewest_wrong", "least_depth", "liars_borne",
                        "stretch_count", "turns_count", "turns_place", "fewest_more", "table_price", "turn_reach",
                        "turn_liars", "rounds_needed", "log_slip", "receipt_orders", "right_orders"}:
                self.assertIs(call(*ahead, *told).__class__, int, name)


if __name__ == "__main__":
    unittest.main()
