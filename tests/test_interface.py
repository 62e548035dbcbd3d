"""The names of the interface, in their files, with their parameters."""

import importlib
import inspect
import pathlib
import re
import unittest

INTERFACE = {
    "pacts": {"Pact": "hands notes ready paper", "hand_of": "pact note", "notes_of": "pact hand",
              "lies_under": "pact one other", "under_of": "pact note", "whole_paper": "pact",
              "key_note": "pact hand", "ready_note": "pact hand"},
    "heights": {"closure_of": "pact lot", "level_of": "pact note", "top_of": "pact hand",
                "next_level": "pact hand note", "next_note": "pact hand note", "last_note": "pact hand note",
                "next_levels": "pact note", "clock_of": "pact note", "clocks_of": "pact", "clock_fault": "table"},
    "forms": {"bare_waits": "pact note", "bare_paper": "pact", "least_order": "pact", "bare_form": "pact",
              "full_form": "pact", "same_web": "one other", "telling_count": "pact", "retold_pact": "pact order",
              "clocked_notes": "hands rows table"},
    "texts": {"pact_text": "pact", "read_pact": "text"},
    "moments": {"need_moment": "pact value", "moment_levels": "pact moment", "moment_at": "pact levels",
                "joined_moment": "pact moments", "met_moment": "pact moments", "moment_tops": "pact moment",
                "all_moments": "pact", "count_sendings": "pact moment", "nth_sending": "pact moment number",
                "sending_number": "pact moment value"},
    "runs": {"need_run": "pact value", "run_heard": "pact run", "run_liars": "pact run", "need_heard": "pact value",
             "need_history": "pact value", "heard_liars": "pact heard", "heard_run": "pact heard",
             "filling_liars": "pact heard", "filling_run": "pact heard"},
    "spans": {"run_spans": "pact run", "eager_run": "pact run", "late_run": "pact run"},
    "wrongs": {"replay": "pact run rule", "run_wrongs": "pact run answers", "good_answers": "pact run",
               "hopeless_run": "pact"},
    "climbs": {"need_row": "pact value", "climb_from": "pact note row", "climb": "pact hand row",
               "row_holds": "pact hand row", "ladder_holds": "pact hand row value", "descent": "pact row",
               "row_starts": "pact row", "row_moments": "pact hand row"},
    "families": {"need_family": "pact value", "in_family": "family lot", "all_lots": "family", "family_of": "lots",
                 "sized_family": "hands many", "family_join": "one other", "barred_lots": "hands family",
                 "family_barring": "hands lots", "family_text": "family", "read_family": "text"},
    "court": {"Just": "table", "Torn": "hand row", "court_rows": "pact family", "highest_level": "pact lot hand",
              "court_table": "pact family", "court": "pact family", "check_court": "pact family value",
              "safe_notes": "pact family", "least_paper": "pact family"},
    "rules": {"plain_reasons": "pact history hand moment", "plain_answer": "pact history hand moment",
              "ask_rank": "pact history hand moment", "ask_chain": "pact history hand moment",
              "deep_answer": "pact history hand moment *depth"},
    "dooms": {"failing_part": "pact hand row", "row_trap": "pact hand row", "doom_run": "pact hand row rule",
              "wrong_runs": "pact runs rule", "fewest_wrong": "pact runs", "trap_holds": "pact family value",
              "least_trap": "pact family", "coin_depths": "pact family", "least_depth": "pact family",
              "depth_run": "pact family depth"},
    "prospects": {"Safe": "table", "Lost": "hand note row", "bound_bars": "pact history",
                  "prospect": "pact family history", "check_prospect": "pact family history value",
                  "lost_runs": "pact history lost"},
    "rightly": {"right_answers": "pact family history hand moment", "first_wrong_answer": "pact family history",
                "wrong_rule_run": "pact family heard rule", "right_rows": "pact family heard",
                "first_limits": "pact family"},
    "booked": {"book_entry": "pact heard", "parting_asks": "pact one other", "book_entries": "pact"},
    "borne": {"failing_rows": "pact", "bears_lot": "pact lot", "wronged_by": "pact lot", "least_barred": "pact",
              "greatest_family": "pact", "least_meets": "lots", "trusted_lots": "pact", "liars_borne": "pact",
              "borne_paper": "pact", "borne_holds": "pact value"},
    "kept": {"torn_in": "pact family lot", "keeping_answer": "pact lot history hand moment", "cut_pact": "pact lot",
             "cut_family": "lot family", "least_unkept": "pact family", "kept_lots": "pact family",
             "spared_lots": "pact family", "kept_family": "pact lot", "keeping_pairs": "pact",
             "share_pact": "hands pairs"},
    "turns": {"turns_pact": "hands turns", "pact_turns": "pact", "lined_pact": "pact", "part_places": "turns part",
              "turns_lack": "hands family turns"},
    "wishes": {"need_wishes": "hands value", "most_wishes": "rows", "family_wishes": "hands family",
               "wishes_held": "wishes turns", "wants_behind": "wishes turns", "avoiding_turns": "hands wish many",
               "telling_turns": "hands wishes one other"},
    "tallies": {"wishes_machine": "hands wishes", "stretch_count": "hands wishes many",
                "turns_count": "hands family many", "turns_at": "hands family many number",
                "turns_place": "hands family turns"},
    "shortest": {"fewest_stretch": "hands wishes", "fewest_more": "hands family turns",
                 "next_writers": "hands family turns", "cheapest_turns": "hands family prices",
                 "price_table": "hands wishes prices", "table_price": "hands wishes prices value",
                 "needless_turns": "hands family turns", "tight_stretches": "hands wishes",
                 "tight_turns": "hands family", "turn_reach": "hands turns", "turn_liars": "hands turns",
                 "rounds_needed": "hands family period"},
    "needless": {"dropped_pact": "pact lot", "loosened_pact": "pact note wait", "thin_notes": "pact family",
                 "bone_pact": "pact family", "tight_fault": "pact family", "tight_pact": "pact family"},
    "mends": {"wider_pact": "pact waits", "row_rectangles": "pact hand row", "one_waits": "pact family",
              "row_waits": "pact hand row", "just_order": "pact family", "behind_pact": "pact row",
              "turns_behind": "pact family"},
    "rounds": {"beats_pact": "hands beats", "beats_just": "hands family beats", "fewest_beats": "hands family many",
               "beats_front": "hands family", "early_beats": "pact"},
    "offices": {"Offices": "names tells counters forgets", "ask_known": "offices lot other gone",
                "deaf_pair": "offices", "offices_court": "pact family offices",
                "sized_offices": "names hands many lost", "alternate_climb": "pact hand one other",
                "alternate_moments": "pact hand one other"},
    "unions": {"need_groups": "pact value", "group_moments": "pact groups hand row",
               "members_row": "pact groups hand row", "group_court": "pact groups liars",
               "merged_pact": "pact groups", "pacts_behind": "one other", "sum_family": "hands one other"},
    "power": {"company_reach": "pact lot moment", "readies_moment": "pact", "turning_note": "pact lot hand",
              "can_bind": "pact lot moment", "can_void": "pact lot moment", "voiding_way": "pact lot moment",
              "voids_for_good": "pact moment value", "choosing_lots": "pact family moment",
              "settled_moment": "pact family", "choice_stretch": "pact family order",
              "first_choice": "pact order rule", "least_stretch": "pact family", "greatest_stretch": "pact family"},
    "logs": {"need_log": "pact value", "first_history": "pact log", "log_slip": "pact log", "log_text": "pact log",
             "read_log": "pact text"},
    "audits": {"log_liars": "pact log found", "log_run": "pact log found", "found_bounds": "pact family log",
               "blaming_lots": "pact log", "excusing_family": "pact log", "blame": "pact family log found"},
    "receipts": {"receipt_orders": "pact receipts", "nth_receipt_order": "pact receipts number",
                 "right_orders": "pact family receipts", "unlogged_asks": "pact history hand moment"},
    "alike": {"walk_note": "pact hand walk", "longest_walk": "pact hand", "walk_apart": "one other",
              "rows_apart": "one other"},
    "cores": {"same_future": "pact one other", "core_notes": "pact", "core_table": "pact", "core_fault": "table",
              "tabled_pact": "table", "one_form": "pact", "turnings": "pact"},
    "checker": {"sheet_holds": "pact kind question value"},
    "books": {"Book": "pact"},
    "office": {"Office": "pact family", "office_after": "pact family log"},
    "desk": {"Desk": ""},
}
METHODS = {("office", "Office"): {"ask": "hand moment", "tell": "hand moment answer", "standing": "", "undo": "",
                                  "redo": "", "trying": "work", "__len__": ""},
           ("books", "Book"): {"put": "sheet", "knows": "claim question", "moved": "pact"},
           ("desk", "Desk"): {"say": "command"}}
KINDS = {inspect.Parameter.POSITIONAL_OR_KEYWORD: "", inspect.Parameter.KEYWORD_ONLY: "*"}
ERRORS = {"InvalidPact": "at", "InvalidText": "at", "InvalidFamily": "at", "InvalidMoment": "at", "InvalidRun": "at",
          "InvalidAsk": "at", "InvalidRow": "at", "InvalidOffices": "at", "InvalidSize": "word", "Refused": "word",
          "NoName": "name"}
EQUAL = {"pacts": ["Pact"], "court": ["Just", "Torn"], "prospects": ["Safe", "Lost"],
         "offices": ["Offices"]}


class InterfaceTest(unittest.TestCase):
    def test_names_and_parameters(self):
        for stem, names in INTERFACE.items():
            module = importlib.import_module("boundorvoid." + stem)
            for name, told in names.items():
                found = getattr(module, name)
                self.assertEqual(found.__module__, module.__name__, name)
                parameters = inspect.signature(found).parameters.values()
                self.assertEqual([KINDS[one.kind] + one.name for one in parameters], told.split(), name)

    def test_methods_are_defined_in_the_class(self):
        for (stem, name), methods in METHODS.items():
            own = vars(getattr(importlib.import_module("boundorvoid." + stem), name))
            for method, told in methods.items():
                self.assertEqual(list(inspect.signature(own[method]).parameters)[1:], told.split(), (name, method))

    def test_all_names_of_the_document(self):
        text = (pathlib.Path(__file__).resolve().parent.parent.parent / "shared" / "DOC.md")
        if not text.exists():
            self.skipTest("the document is not here")
        listed = {}
        for stem, rest in re.findall(r"^- `boundorvoid/(\w+)\.py`: (.*)$", text.read_text(), re.MULTILINE):
            names = re.findall(r"(?:class )?`(\w+)(?:\(\.\.\))?`", re.sub(r" \((`[a-z=`, ]*`)\)", "", rest))
            listed[stem] = set(names)
        del listed["errors"]
        self.assertEqual(listed, {stem: set(names) for stem, names in INTERFACE.items()})

    def test_nothing_is_iterable_or_has_a_length_but_an_office(self):
        for stem in (path.stem for path in pathlib.Path(importlib.import_module("boundorvoid").__file__).parent.glob(
                "*.py")):
            for name, found in vars(importlib.import_module("boundorvoid." + stem)).items():
                if inspect.isclass(found) and found.__module__.startswith("boundorvoid."):
                    self.assertFalse({"__iter__", "__getitem__", "__contains__"} & set(vars(found)), name)
                    self.assertEqual("__len__" in vars(found), name == "Office")

    def test_errors(self):
        module = importlib.import_module("boundorvoid.errors")
        for name, told in ERRORS.items():
            parameters = inspect.signature(getattr(module, name)).parameters
            self.assertEqual(list(parameters), [told], name)

    def test_equality_is_defined_in_the_class(self):
        for stem, names in EQUAL.items():
            for name in names:
                self.assertIn("__eq__", vars(getattr(importlib.import_module("boundorvoid." + stem), name)))


if __name__ == "__main__":
    unittest.main()
