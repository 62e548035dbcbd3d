"""[91]: a desk and its commands."""

import random
import unittest

from boundorvoid.court import Just, court
from boundorvoid.desk import Desk
from boundorvoid.errors import InvalidCommand, InvalidFamily, InvalidMoment, InvalidText, NoName, Refused
from boundorvoid.families import family_text
from boundorvoid.office import Office
from boundorvoid.texts import pact_text

from tests.helpers import all_families, base_pact, close_pacts, naive_moments, raised, small_pacts

PACT = "pact hands a b ; note m a ; note n b m ; note o a n ; note p b o ; ready m n ; paper p"


def begun(*commands):
    desk = Desk()
    for command in (PACT, *commands):
        desk.say(command)
    return desk


def state(desk):
    office = desk.office
    return None if office is None else (office, office.pact, office.family, office.log)


class DeskTest(unittest.TestCase):
    def test_begin(self):
        desk = Desk()
        self.assertIsNone(desk.office)
        self.assertEqual(desk.say(command=PACT), "just")
        self.assertIsInstance(desk.office, Office)
        self.assertEqual(state(desk)[1:], (base_pact(), ((),), ()))
        self.assertEqual(desk.say("family a ; b"), "just")
        self.assertEqual(state(desk)[1:], (base_pact(), (("a",), ("b",)), ()))
        self.assertEqual(desk.say(PACT[:-1] + "o"), "just")
        self.assertEqual(desk.say("family a b"), "torn b a b")
        self.assertEqual(desk.office.family, (("a", "b"),))
        self.assertEqual(desk.say("family "), "just")
        self.assertEqual(desk.office.family, ((),))

    def test_any_pact_and_family(self):
        rng, torn = random.Random(910), 0
        for pact in small_pacts(910, 30) + close_pacts(910, 30):
            desk = Desk()
            for family in [((),)] + rng.sample(all_families(pact.hands), 3):
                found = court(pact, family)
                told = "just" if isinstance(found, Just) else " ".join(["torn", found.hand, *found.row])
                if family == ((),):
                    self.assertEqual(desk.say("pact " + pact_text(pact).replace("\n", " ; ")), told)
                else:
                    self.assertEqual(desk.say("family " + family_text(family).replace("\n", " ; ")), told)
                self.assertEqual(state(desk)[1:], (pact, family, ()))
                torn += told != "just"
        self.assertGreater(torn, 40)

    def test_a_new_office_each_time(self):
        desk = begun("ask a m")
        office = desk.office
        desk.say("family a")
        self.assertIsNot(desk.office, office)
        self.assertEqual((desk.say("log"), len(office)), ("", 1))
        desk.say("ask a m")
        desk.say(PACT)
        self.assertEqual(state(desk)[1:], (base_pact(), ((),), ()))

    def test_asks_against_an_office(self):
        rng = random.Random(911)
        for pact in close_pacts(911, 25, notes=(5, 8)):
            desk, moments = Desk(), naive_moments(pact)
            desk.say("pact " + pact_text(pact).replace("\n", " ; "))
            office = Office(pact, ((),))
            for _ in range(20):
                word = rng.choice(("ask", "ask", "bound", "void", "undo", "redo", "standing", "log"))
                hand, moment = rng.choice(pact.hands), rng.choice(moments)
                if word in ("ask", "bound", "void"):
                    command = " ".join([word, hand, *moment])
                    call, told = (office.ask, ()) if word == "ask" else (office.tell, (word,))
                    try:
                        expected = call(hand, moment, *told)
                    except Refused as wrong:
                        self.assertEqual(raised(Refused, desk.say, command), wrong.word)
                        continue
                    self.assertEqual(desk.say(command), expected)
                elif word == "log":
                    lines = [" ".join([answer, who, *shown]) for who, shown, answer in office.log]
                    self.assertEqual(desk.say(word), " ; ".join(lines))
                elif word == "standing":
                    self.assertEqual(desk.say(word), office.standing())
                else:
                    done = office.undo() if word == "undo" else office.redo()
                    self.assertEqual(desk.say(word), "done" if done else "nothing")
                self.assertEqual(desk.office.log, office.log)

    def test_commands(self):
        desk = begun("family a ; b")
        told = [desk.say(command) for command in ("log", "undo", "redo", "standing", "ask a", "void b m", "log", "undo",
                                                  "redo", "redo", "ask a m n o", "log")]
        self.assertEqual(told, ["", "nothing", "nothing", "safe", "void", "void", "void a ; void b m", "done", "done",
                                "nothing", "void", "void a ; void b m ; void a m n o"])
        self.assertEqual(begun("family b", "ask a m", "ask b m n o p").say("standing"), "liars")


class CommandTest(unittest.TestCase):
    def check(self, desk, command):
        ahead = state(desk)
        self.assertIsNone(raised(InvalidCommand, desk.say, command), command)
        self.assertEqual(state(desk), ahead)

    def test_no_commands(self):
        wrong = [None, True, 0, [PACT], (PACT,), base_pact(), "", " ", "pact", "family", "ask", "bound", "void", "x",
                 "Pact ", "standing ", "standing a", "log ", "log a", "undo ", "undo 1", "redo ", "redo a", " log",
                 "ask\ta m", "asks a m", "pactx hands", " pact hands", "familya", "standing\n", "\nlog", "ask a\nm",
                 "tell a m void", "wrong", "just", "help", "LOG", "log\n", PACT + "\n", "family a\nb",
                 "pact " + PACT[5:].replace(" ; ", "\n")]
        for desk in (Desk(), begun(), begun("family a ; b", "ask a m")):
            for command in wrong:
                self.check(desk, command)

    def test_ahead_of_the_first_pact(self):
        desk = Desk()
        for command in ("family a", "family ", "ask a m", "ask ", "bound a", "void a", "standing", "log", "undo", "redo"):
            self.check(desk, command)
        self.assertEqual(raised(InvalidText, desk.say, "pact hands a"), 0)
        self.check(desk, "log")
        self.assertIsNone(desk.office)

    def refused(self, error, kept, command, *commands):
        desk = begun("family a ; b", "ask a m", *commands)
        ahead = state(desk)
        self.assertEqual(raised(error, desk.say, command), kept)
        self.assertEqual(state(desk), ahead)

    def test_errors_of_what_is_called(self):
        for text, at in (("", 0), ("hands a b", 1), ("hands a b ; note m a ; note n b ; ready m n", 4),
                         ("hands a b ; note m a ; note n b ; ready m n ; paper m n ; ", 5), ("hands a b ;note m a", 0),
                         ("hands a  b", 0)):
            self.refused(InvalidText, at, "pact " + text)
        for text, at in ((" ", 0), ("b ; a", 1), ("a ; ", 1), ("a  b", 0), ("a ; a", 1), ("a ; a b", 0), ("A", 0)):
            self.refused(InvalidText, at, "family " + text)
        self.refused(InvalidFamily, 0, "family c")
        self.refused(InvalidFamily, 1, "family a ; c")
        for word in ("ask", "bound", "void"):
            self.refused(NoName, "", word + " ")
            self.refused(NoName, "x", word + " x y z")
            self.refused(NoName, "", word + "  a")
            self.refused(InvalidMoment, 0, word + " b ")
            self.refused(InvalidMoment, 0, word + " b n")
            self.refused(InvalidMoment, 1, word + " b m ")
            self.refused(InvalidMoment, 1, word + " b m  n")
        self.refused(Refused, "asked", "void a m")
        self.refused(Refused, "wrong", "bound b")
        self.refused(Refused, "wrong", "void b m n o p")

    def test_an_error_takes_nothing_back(self):
        desk = begun("family a ; b", "ask a m", "ask b", "undo")
        for command in ("ask x", "void a m", "bound b", "family c", "pact hands", "nothing"):
            with self.assertRaises(Exception):
                desk.say(command)
        self.assertEqual([desk.say("redo"), desk.say("log")], ["done", "void a m ; void b"])


if __name__ == "__main__":
    unittest.main()
