"""[74]: logs and their texts."""

import random
import unittest

from boundorvoid.audits import log_liars, log_run
from boundorvoid.errors import InvalidAsk, InvalidMoment, InvalidText
from boundorvoid.logs import first_history, log_slip, log_text, need_log, read_log

from tests.helpers import base_pact, close_pacts, raised, random_log, small_pacts

LOG = (("a", ("m",), "void"), ("b", ("m", "n"), "bound"), ("a", (), "void"), ("a", ("m", "n", "o"), "bound"))
NO_LOGS = [(None, -1), (True, -1), (3, -1), ("ab", -1), (list(LOG), -1), ((None,), 0), ((LOG[0], ["a", (), "void"]), 1),
           ((LOG[0], LOG[1][:2]), 1), ((("a", ("n",), "void"),), 0), ((("x", (), "void"),), 0), (LOG + (("a",),), 4),
           ((("a", ["m"], "void"),), 0), ((("a", (), "Void"),), 0), ((("a", (), True),), 0), ((("a", (), ["void"]),), 0),
           ((("a", (), "void", 1),), 0), (((["a"], (), "void"),), 0), (LOG[:2] + (LOG[:1],), 2), ((("void", (), "a"),), 0)]


def logs(seed, many):
    rng = random.Random(seed)
    for pact in small_pacts(seed, many) + close_pacts(seed, many, notes=(5, 8)):
        for _ in range(4):
            yield pact, random_log(rng, pact)


class LogTest(unittest.TestCase):
    def test_logs(self):
        pact = base_pact()
        for log in (LOG, (), LOG[:1], LOG * 10):
            self.assertEqual(need_log(pact, log), log)
        self.assertEqual(need_log(pact=pact, value=LOG), LOG)

    def test_what_is_none(self):
        pact = base_pact()
        for value, at in NO_LOGS:
            for call in (need_log, first_history, log_slip, log_text):
                self.assertEqual(raised(InvalidAsk, call, pact, value), at)
            for call in (log_liars, log_run):
                self.assertEqual(raised(InvalidAsk, call, pact, value, None), at)
        for call in (log_liars, log_run):
            for found, at in ((None, -1), (["m"], -1), (("n",), 0), (("m", "x"), 1), (True, -1)):
                self.assertEqual(raised(InvalidMoment, call, pact, LOG, found), at)

    def test_first_asks_and_slips(self):
        self.assertEqual(first_history(base_pact(), LOG), LOG[:2])
        self.assertEqual(log_slip(base_pact(), LOG), 3)
        self.assertIsNone(log_slip(base_pact(), LOG[:3]))
        self.assertEqual((first_history(base_pact(), ()), log_slip(base_pact(), ())), ((), None))
        slips = []
        for pact, log in logs(740, 80):
            firsts, slip = [], None
            for at, triple in enumerate(log):
                told = [other for other in firsts if other[0] == triple[0]]
                if not told:
                    firsts.append(triple)
                elif told[0][2] != triple[2] and slip is None:
                    slip = at
            self.assertEqual(first_history(pact, log), tuple(firsts))
            self.assertEqual(log_slip(pact, log), slip)
            slips.append((len(firsts) < len(log), slip is None))
        for kind in ((True, True), (True, False), (False, True)):
            self.assertGreater(slips.count(kind), 15)


class TextTest(unittest.TestCase):
    def test_there_and_back(self):
        self.assertEqual(log_text(base_pact(), LOG), "void a m\nbound b m n\nvoid a\nbound a m n o")
        self.assertEqual((log_text(base_pact(), ()), read_log(base_pact(), "")), ("", ()))
        for pact, log in logs(741, 40):
            lines = [" ".join([answer, hand, *moment]) for hand, moment, answer in log]
            self.assertEqual(log_text(pact, log), "\n".join(lines))
            self.assertEqual(read_log(pact, "\n".join(lines)), log)
        self.assertEqual(read_log(pact=base_pact(), text="void b"), (("b", (), "void"),))

    def test_no_texts(self):
        for text in (None, True, 3, ("void a",), ["void a"], base_pact()):
            self.assertEqual(raised(InvalidText, read_log, base_pact(), text), -1)

    def test_one_line_wrong(self):
        lines = log_text(base_pact(), LOG).split("\n")
        for at in range(len(lines)):
            for wrong in ("", " ", "void", "void ", "void  a", " void a", "void a ", "void a m  n", "Void a", "a void",
                          "void A", "void a M", "void a n m", "void a m m", "void a m 1", "void abcdefghi", "void a\tm",
                          "void a " + "m" * 9, "voida", "bound", "void a-b"):
                text = "\n".join([*lines[:at], wrong, *lines[at + 1:]])
                self.assertEqual(raised(InvalidText, read_log, base_pact(), text), at, wrong)
            # All lines are read before anything is asked about the pact.
            for wrong in ("void x", "void a n", "void a x", "bound ab", "bound m n"):
                text = "\n".join([*lines[:at], wrong, *lines[at + 1:]])
                self.assertEqual(raised(InvalidAsk, read_log, base_pact(), text), at, wrong)
                self.assertEqual(raised(InvalidText, read_log, base_pact(), text + "\n"), len(lines))
        self.assertEqual(raised(InvalidText, read_log, base_pact(), "\n"), 0)
        self.assertEqual(raised(InvalidText, read_log, base_pact(), "\n".join(lines) + "\n"), 4)

    def test_one_word_wrong_anywhere(self):
        rng = random.Random(742)
        for pact, log in logs(742, 15):
            if not log:
                continue
            words = [line.split(" ") for line in log_text(pact, log).split("\n")]
            at = rng.randrange(len(words))
            place = rng.randrange(len(words[at]))
            words[at][place] = rng.choice(("", "?", "9", "Aa"))
            text = "\n".join(map(" ".join, words))
            self.assertEqual(raised(InvalidText, read_log, pact, text), at)


if __name__ == "__main__":
    unittest.main()
