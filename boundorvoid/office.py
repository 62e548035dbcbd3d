"""A notary at work."""

from boundorvoid.errors import InvalidAsk, Refused
from boundorvoid.families import need_family
from boundorvoid.logs import history_of
from boundorvoid.moments import need_moment
from boundorvoid.pacts import hand_number
from boundorvoid.prospects import is_lost, is_possible
from boundorvoid.rules import told_plainly
from boundorvoid.runs import HISTORY_PARTS, asks_of, is_answer, is_told, told_answer


class Office:
    """A notary that answers by the plain rule, or as it is told to; all asks are in its log."""

    def __init__(self, pact, family):
        need_family(pact, family)
        self.pact = pact
        self.family = family
        self.log = ()
        self.undone = ()

    def __len__(self):
        return len(self.log)

    def ask(self, hand, moment):
        """What the plain rule answers to an ask, which is put to the log."""
        hand_number(self.pact, hand)
        need_moment(self.pact, moment)
        answer = told_plainly(self.pact, history_of(self.log), hand, moment)
        self._put_in(hand, moment, answer)
        return answer

    def tell(self, hand, moment, answer):
        """Put an ask to the log with any right answer."""
        hand_number(self.pact, hand)
        need_moment(self.pact, moment)
        history = history_of(self.log)
        if told_answer(history, hand) is not None:
            raise Refused("asked")
        if not is_answer(answer):
            raise Refused("answer")
        if _standing_of(self.pact, self.family, (*history, (hand, moment, answer))) != "safe":
            raise Refused("wrong")
        self._put_in(hand, moment, answer)
        return answer

    def _put_in(self, hand, moment, answer):
        self.log = (*self.log, (hand, moment, answer))
        self.undone = ()

    def standing(self):
        """Whether the first asks are safe or lost, or too many hands lied."""
        return _standing_of(self.pact, self.family, history_of(self.log))

    def undo(self):
        """Take back the last ask of the log; whether there was one."""
        if not self.log:
            return False
        self.undone = (*self.undone, self.log[-1])
        self.log = self.log[:-1]
        return True

    def redo(self):
        """Put back what was taken back last; whether there was something."""
        if not self.undone:
            return False
        self.log = (*self.log, self.undone[-1])
        self.undone = self.undone[:-1]
        return True

    def trying(self, work):
        """What some work with the office returns; behind it all is as ahead."""
        log = self.log
        undone = self.undone
        try:
            return work(self)
        finally:
            self.log = log
            self.undone = undone


def _standing_of(pact, family, history):
    """How a history stands for a family."""
    if not is_possible(pact, family, asks_of(history)):
        return "liars"
    return "lost" if is_lost(pact, family, history) else "safe"


def _log_fault(pact, value):
    """The first wrong place of any value that should be a log in which nobody is told otherwise than first, or None."""
    if not isinstance(value, tuple):
        return -1
    told = {}
    for at, thing in enumerate(value):
        if not is_told(pact, thing, HISTORY_PARTS) or told.setdefault(thing[0], thing[2]) != thing[2]:
            return at
    return None


def office_after(pact, family, log):
    """The office with a log in which each hand is always told the same."""
    office = Office(pact, family)
    fault = _log_fault(pact, log)
    if fault is not None:
        raise InvalidAsk(fault)
    office.log = log
    return office
