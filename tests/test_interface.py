"""The names of the interface, in their files, with their parameters."""

import importlib
import inspect
import unittest

INTERFACE = {
    "pacts": {"Pact": "hands notes ready paper", "hand_of": "pact note", "notes_of": "pact hand",
              "lies_under": "pact one other", "under_of": "pact note", "whole_paper": "pact",
              "key_note": "pact hand", "ready_note": "pact hand"},
    "heights": {"closure_of": "pact lot", "level_of": "pact note", "top_of": "pact hand",
                "next_level": "pact hand note", "next_note": "pact hand note", "last_note": "pact hand note",
                "next_levels": "pact note", "clock_of": "pact note", "clocks_of": "pact", "clock_fault": "table"},
    "forms": {"bare_waits": "pact note", "bare_paper": "pact", "least_order": "pact", "bare_form": "pact",
              "full_form": "pact", "same_web": "one other", "telling_count": "pact", "retold_pact": "pact order",
              "clocked_notes": "hands rows table"},
    "texts": {"pact_text": "pact", "read_pact": "text"},
    "moments": {"need_moment": "pact value", "moment_levels": "pact moment", "moment_at": "pact levels",
                "joined_moment": "pact moments", "met_moment": "pact moments", "moment_tops": "pact moment",
                "all_moments": "pact", "count_sendings": "pact moment", "nth_sending": "pact moment number",
                "sending_number": "pact moment value"},
    "runs": {"need_run": "pact value", "run_heard": "pact run", "run_liars": "pact run", "need_heard": "pact value",
             "need_history": "pact value", "heard_liars": "pact heard", "heard_run": "pact heard",
             "filling_liars": "pact heard", "filling_run": "pact heard"},
    "spans": {"run_spans": "pact run", "eager_run": "pact run", "late_run": "pact run"},
    "wrongs": {"replay": "pact run rule", "run_wrongs": "pact run answers", "good_answers": "pact run",
               "hopeless_run": "pact"},
    "climbs": {"need_row": "pact value", "climb_from": "pact note row", "climb": "pact hand row",
               "row_holds": "pact hand row", "ladder_holds": "pact hand row value", "descent": "pact row",
               "row_starts": "pact row", "row_moments": "pact hand row"},
    "families": {"need_family": "pact value", "in_family": "family lot", "all_lots": "family", "family_of": "lots",
                 "sized_family": "hands many", "family_join": "one other", "barred_lots": "hands family",
                 "family_barring": "hands lots", "family_text": "family", "read_family": "text"},
    "court": {"Just": "table", "Torn": "hand row", "court_rows": "pact family", "highest_level": "pact lot hand",
              "court_table": "pact family", "court": "pact family", "check_court": "pact family value",
              "safe_notes": "pact family", "least_paper": "pact family"},
}
ERRORS = {"InvalidPact": "at", "InvalidText": "at", "InvalidFamily": "at", "InvalidMoment": "at", "InvalidRun": "at",
          "InvalidAsk": "at", "InvalidRow": "at", "InvalidOffices": "at", "InvalidSize": "word", "Refused": "word",
          "NoName": "name"}
EQUAL = {"pacts": ["Pact"], "court": ["Just", "Torn"]}


class InterfaceTest(unittest.TestCase):
    def test_names_and_parameters(self):
        for stem, names in INTERFACE.items():
            module = importlib.import_module("boundorvoid." + stem)
            for name, told in names.items():
                found = getattr(module, name)
                self.assertEqual(found.__module__, module.__name__, name)
                parameters = inspect.signature(found).parameters.values()
                self.assertEqual([one.name for one in parameters], told.split(), name)
                self.assertTrue(all(one.kind == one.POSITIONAL_OR_KEYWORD for one in parameters), name)

    def test_errors(self):
        module = importlib.import_module("boundorvoid.errors")
        for name, told in ERRORS.items():
            parameters = inspect.signature(getattr(module, name)).parameters
            self.assertEqual(list(parameters), [told], name)

    def test_equality_is_defined_in_the_class(self):
        for stem, names in EQUAL.items():
            for name in names:
                self.assertIn("__eq__", vars(getattr(importlib.import_module("boundorvoid." + stem), name)))


if __name__ == "__main__":
    unittest.main()
