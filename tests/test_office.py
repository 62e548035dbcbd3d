"""[89] and [90]: an office at work."""

import random
import unittest

from boundorvoid.court import Just, court
from boundorvoid.dooms import row_trap
from boundorvoid.errors import InvalidAsk, InvalidFamily, InvalidMoment, NoName, Refused
from boundorvoid.families import in_family
from boundorvoid.logs import first_history
from boundorvoid.office import Office, office_after
from boundorvoid.prospects import Lost, Safe, prospect
from boundorvoid.rules import plain_answer
from boundorvoid.runs import heard_liars, run_liars
from boundorvoid.wrongs import run_wrongs

from tests.helpers import all_families, base_pact, close_pacts, naive_moments, raised, random_log, random_run, small_pacts

ONE_LIES = (("a",), ("b",))
ALL = ("m", "n", "o", "p")


def state(office):
    return office.pact, office.family, office.log, len(office), office.standing()


def tried(seed, many):
    """Pacts with families and logs in which nobody is told otherwise than first."""
    rng = random.Random(seed)
    for pact in small_pacts(seed, many) + close_pacts(seed, 2 * many, notes=(5, 8)):
        log, told = [], {}
        for hand, moment, answer in random_log(rng, pact):
            log.append((hand, moment, told.setdefault(hand, answer)))
        yield pact, rng.choice(all_families(pact.hands)[:20]), tuple(log)


def naive_standing(pact, family, log):
    history = first_history(pact, log)
    if not in_family(family, heard_liars(pact, tuple(entry[:2] for entry in history))):
        return "liars"
    return "lost" if isinstance(prospect(pact, family, history), Lost) else "safe"


class AskTest(unittest.TestCase):
    def test_begin(self):
        office = Office(base_pact(), ONE_LIES)
        self.assertEqual(state(office), (base_pact(), ONE_LIES, (), 0, "safe"))
        self.assertEqual(Office(pact=base_pact("n"), family=((),)).standing(), "lost")
        for value, at in ((None, -1), ((), -1), ((("c",),), 0), (((), ("a",)), 0), ([("a",)], -1)):
            self.assertEqual(raised(InvalidFamily, Office, base_pact(), value), at)

    def test_ask(self):
        rng, again = random.Random(890), 0
        for pact, family, log in tried(890, 30):
            office, moments = office_after(pact, family, log), naive_moments(pact)
            for _ in range(4):
                hand, moment = rng.choice(pact.hands), rng.choice(moments)
                ahead = office.log
                expected = plain_answer(pact, first_history(pact, ahead), hand, moment)
                self.assertEqual(office.ask(hand, moment), expected)
                self.assertEqual(office.log, ahead + ((hand, moment, expected),))
                self.assertEqual(len(office), len(ahead) + 1)
                self.assertEqual(office.standing(), naive_standing(pact, family, office.log))
                again += hand in [entry[0] for entry in ahead]
        self.assertGreater(again, 50)

    def test_who_asks_again_is_told_the_same(self):
        office = Office(base_pact(), ONE_LIES)
        self.assertEqual(office.ask("a", ("m",)), "void")
        self.assertEqual(office.ask(hand="b", moment=ALL), "bound")
        self.assertEqual(office.ask("a", ALL), "void")
        self.assertEqual(office.log, (("a", ("m",), "void"), ("b", ALL, "bound"), ("a", ALL, "void")))

    def test_errors(self):
        office = Office(base_pact(), ((),))
        office.ask("a", ("m",))
        ahead = state(office)
        for call, told in ((office.ask, ()), (office.tell, (None,))):
            self.assertEqual(raised(NoName, call, "x", None, *told), "x")
            for value, at in ((None, -1), (["m"], -1), (("n",), 0), (("m", "x"), 1)):
                self.assertEqual(raised(InvalidMoment, call, "a", value, *told), at)
        self.assertEqual(raised(Refused, office.tell, "a", ("m",), None), "asked")
        for answer in (None, True, "", "Void", ["void"], ("bound",), 1):
            self.assertEqual(raised(Refused, office.tell, "b", ALL, answer), "answer")
        self.assertEqual(raised(Refused, office.tell, "b", ALL, "void"), "wrong")
        self.assertEqual(state(office), ahead)


class TellTest(unittest.TestCase):
    def test_against_the_words(self):
        rng, found = random.Random(891), []
        for pact, family, log in tried(891, 100):
            office, moments = office_after(pact, family, log), naive_moments(pact)
            hand, moment, answer = rng.choice(pact.hands), rng.choice(moments), rng.choice(("bound", "void"))
            ahead = state(office)
            if hand in [entry[0] for entry in log]:
                self.assertEqual(raised(Refused, office.tell, hand, moment, answer), "asked")
                expected = "asked"
            elif naive_standing(pact, family, log + ((hand, moment, answer),)) == "safe":
                self.assertEqual(office.tell(hand, moment, answer), answer)
                self.assertEqual(office.log, log + ((hand, moment, answer),))
                self.assertEqual(office.standing(), "safe")
                found.append("told")
                continue
            else:
                expected = naive_standing(pact, family, log + ((hand, moment, answer),))
                self.assertEqual(raised(Refused, office.tell, hand, moment, answer), "wrong")
            self.assertEqual(state(office), ahead)
            found.append(expected)
        for kind in ("told", "asked", "lost", "liars"):
            self.assertGreater(found.count(kind), 10, kind)

    def test_example(self):
        office = Office(base_pact(), ONE_LIES)
        self.assertEqual(office.tell(hand="a", moment=("m",), answer="void"), "void")
        self.assertEqual(raised(Refused, office.tell, "b", ALL, "void"), "wrong")
        self.assertEqual(office.tell("b", ("m", "n", "o"), "bound"), "bound")
        both = Office(base_pact(), (("b",),))
        both.tell("a", ("m",), "void")
        # a must lie if o is seen.
        self.assertEqual(raised(Refused, both.tell, "b", ALL, "bound"), "wrong")

    def test_nobody_honest_is_wronged(self):
        rng, many = random.Random(892), 0
        for pact, family, _ in tried(892, 60):
            office = Office(pact, family)
            if office.standing() != "safe":
                continue
            for _ in range(6):
                run = random_run(rng, pact, most=14, ask=0.4)
                if not in_family(family, run_liars(pact, run)):
                    continue
                office, answers = Office(pact, family), []
                for event in run:
                    if event[0] == "ask":
                        _, hand, moment = event
                        first = hand not in [entry[0] for entry in office.log]
                        said = rng.choice(("bound", "void"))
                        right = first and office.trying(lambda desk: can_tell(desk, hand, moment, said))
                        told = office.tell(hand, moment, said) if right else office.ask(hand, moment)
                        answers += [told] if first else []
                if isinstance(court(pact, family), Just):
                    self.assertEqual(office.standing(), "safe")
                    self.assertEqual(run_wrongs(pact, run, answers), ())
                    many += len(answers) > 0
        self.assertGreater(many, 40)


def can_tell(office, hand, moment, answer):
    try:
        office.tell(hand, moment, answer)
    except Refused:
        return False
    return True


class UndoTest(unittest.TestCase):
    def test_undo_and_redo(self):
        for pact, family, log in tried(893, 20):
            office = office_after(pact, family, log)
            self.assertEqual(len(office), len(log))
            for many in range(len(log), 0, -1):
                self.assertIs(office.undo(), True)
                self.assertEqual((office.log, len(office)), (log[:many - 1], many - 1))
            self.assertIs(office.undo(), False)
            for many in range(len(log)):
                self.assertIs(office.redo(), True)
                self.assertEqual((office.log, len(office)), (log[:many + 1], many + 1))
            self.assertIs(office.redo(), False)
            self.assertEqual(office.log, log)

    def test_nothing_there(self):
        office = Office(base_pact(), ((),))
        self.assertEqual((office.undo(), office.redo(), office.log), (False, False, ()))
        office.ask("a", ())
        self.assertIs(office.redo(), False)
        self.assertEqual(len(office), 1)

    def test_a_new_ask_ends_what_can_be_put_back(self):
        for put in (lambda office: office.ask("b", ()), lambda office: office.tell("b", (), "void")):
            office = Office(base_pact(), ONE_LIES)
            office.ask("a", ())
            office.ask("a", ("m",))
            office.undo()
            office.undo()
            office.redo()
            put(office)
            self.assertEqual(office.log, (("a", (), "void"), ("b", (), "void")))
            self.assertIs(office.redo(), False)
            self.assertIs(office.undo(), True)
            self.assertIs(office.redo(), True)

    def test_a_failing_ask_does_not(self):
        office = Office(base_pact(), ONE_LIES)
        office.ask("a", ("m",))
        office.undo()
        raised(InvalidMoment, office.ask, "a", ("n",))
        raised(Refused, office.tell, "b", ALL, None)
        raised(NoName, office.tell, "x", ALL, None)
        self.assertIs(office.redo(), True)

    def test_against_a_list(self):
        rng, pact = random.Random(894), base_pact()
        moments = naive_moments(pact)
        for _ in range(30):
            office, log, taken = Office(pact, ONE_LIES), [], []
            for _ in range(20):
                word = rng.choice(("ask", "undo", "undo", "redo"))
                if word == "ask":
                    hand, moment = rng.choice("ab"), rng.choice(moments)
                    log.append((hand, moment, office.ask(hand, moment)))
                    taken = []
                elif word == "undo":
                    self.assertIs(office.undo(), bool(log))
                    taken += [log.pop()] if log else []
                else:
                    self.assertIs(office.redo(), bool(taken))
                    log += [taken.pop()] if taken else []
                self.assertEqual((office.log, len(office)), (tuple(log), len(log)))


class TryingTest(unittest.TestCase):
    def begun(self):
        office = Office(base_pact(), ONE_LIES)
        office.ask("a", ("m",))
        office.ask("a", ())
        office.undo()
        return office

    def check_as_ahead(self, office, ahead):
        self.assertEqual(state(office), ahead)
        self.assertIs(office.redo(), True)
        self.assertIs(office.redo(), False)
        self.assertEqual(len(office), 2)

    def test_all_is_as_ahead(self):
        for work in (lambda office: office.ask("b", ALL), lambda office: office.undo(), lambda office: office.redo(),
                     lambda office: (office.undo(), office.undo(), office.ask("b", ()), office.tell("a", (), "void")),
                     lambda office: [office], lambda office: None, lambda office: office.log):
            office = self.begun()
            ahead = state(office)
            twin = self.begun()
            expected = work(twin)
            got = office.trying(work=work)
            self.assertEqual(got, [office] if expected == [twin] else expected)
            self.check_as_ahead(office, ahead)

    def test_an_error_goes_on(self):
        class Stop(Exception):
            pass

        def work(office):
            office.undo()
            office.ask("b", ALL)
            raise Stop()

        office = self.begun()
        ahead = state(office)
        with self.assertRaises(Stop):
            office.trying(work)
        self.check_as_ahead(office, ahead)
        office = self.begun()
        self.assertEqual(raised(Refused, office.trying, lambda desk: desk.tell("a", (), "void")), "asked")
        self.check_as_ahead(office, ahead)

    def test_trying_within_trying(self):
        def inner(office):
            office.ask("b", ALL)
            return len(office)

        def outer(office):
            office.ask("b", ())
            told = office.log
            many = office.trying(inner)
            self.assertEqual(office.log, told)
            office.undo()
            try:
                office.trying(lambda desk: desk.tell("a", (), None))
            except Refused:
                pass
            return many, office.redo()

        office = self.begun()
        ahead = state(office)
        self.assertEqual(office.trying(outer), (3, True))
        self.check_as_ahead(office, ahead)


class AfterTest(unittest.TestCase):
    def test_an_office_with_a_log(self):
        for pact, family, log in tried(895, 20):
            office = office_after(pact, family, log)
            self.assertEqual(state(office), (pact, family, log, len(log), naive_standing(pact, family, log)))
            self.assertIs(office.redo(), False)

    def test_errors(self):
        pact = base_pact()
        good = (("a", ("m",), "void"), ("b", ALL, "bound"), ("a", (), "void"))
        self.assertEqual(office_after(pact=pact, family=((),), log=good).log, good)
        for value, at in ((None, -1), (list(good), -1), (True, -1), ("log", -1), ((None,), 0), (good + (("a", ()),), 3),
                          (good + (("a", (), "bound"),), 3), (good[:1] + (("a", (), "bound"), None), 1),
                          (good + (("x", (), "void"),), 3), ((("a", ("n",), "void"),), 0), ((["a", (), "void"],), 0),
                          ((("a", (), None),), 0), ((("a", [], "void"),), 0), ((("a", (), ["void"]),), 0),
                          (good + (("b", (), "void"),), 3), ((("a", (), "void"), None, ("a", (), "bound")), 1)):
            self.assertEqual(raised(InvalidAsk, office_after, pact, ((),), value), at)
            self.assertEqual(raised(InvalidFamily, office_after, pact, (("c",),), value), 0)

    def test_nothing_handed_out_can_change_it(self):
        office = office_after(base_pact(), ONE_LIES, (("a", ("m",), "void"),))
        told = office.log
        self.assertIsInstance(told, tuple)
        office.standing()
        self.assertIs(office.log, told)
        office.ask("b", ())
        self.assertEqual(told, (("a", ("m",), "void"),))

    def test_standings(self):
        log = (("a", ("m",), "void"), ("b", ALL, "void"))
        self.assertEqual([office_after(base_pact(), family, log).standing() for family in (((),), (("a",),), ONE_LIES)],
                         ["liars", "lost", "lost"])
        torn = base_pact("o")
        hand, row = court(torn, ONE_LIES).hand, court(torn, ONE_LIES).row
        run = row_trap(torn, hand, row)[-1]
        office = Office(torn, ONE_LIES)
        self.assertEqual(office.standing(), "lost")
        self.assertIsInstance(prospect(base_pact(), ONE_LIES, ()), Safe)
        for event in run:
            if event[0] == "ask":
                office.ask(*event[1:])
        self.assertEqual(office.standing(), "lost")


if __name__ == "__main__":
    unittest.main()
