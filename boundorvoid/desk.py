"""A desk: an office that is led by commands."""

from boundorvoid.court import Just, court
from boundorvoid.errors import InvalidCommand
from boundorvoid.families import read_family
from boundorvoid.logs import log_text
from boundorvoid.office import Office
from boundorvoid.runs import BOUND, VOID
from boundorvoid.texts import read_pact

PARTED_BY = " ; "
NOBODY = ((),)


class Desk:
    """An office, which a first command begins, and what it says to commands."""

    def __init__(self):
        self.office = None

    def say(self, command):
        """What a command tells."""
        if not isinstance(command, str) or "\n" in command:
            raise InvalidCommand()
        word, blank, text = command.partition(" ")
        if word == "pact" and blank:
            return self._begin(read_pact(_lines_of(text)), NOBODY)
        if self.office is None:
            raise InvalidCommand()
        if word == "family" and blank:
            return self._begin(self.office.pact, read_family(_lines_of(text)))
        if word in ("ask", BOUND, VOID) and blank:
            hand, *notes = text.split(" ")
            return self._answer(word, hand, tuple(notes))
        return self._tell_plainly(command)

    def _begin(self, pact, family):
        """Begin a new office; what its court finds."""
        self.office = Office(pact, family)
        found = court(pact, family)
        return "just" if isinstance(found, Just) else " ".join(["torn", found.hand, *found.row])

    def _answer(self, word, hand, moment):
        """Ask, or tell an answer."""
        if word == "ask":
            return self.office.ask(hand, moment)
        return self.office.tell(hand, moment, word)

    def _tell_plainly(self, command):
        """What a command of one word tells."""
        if command == "standing":
            return self.office.standing()
        if command == "log":
            return log_text(self.office.pact, self.office.log).replace("\n", PARTED_BY)
        if command == "undo":
            return "done" if self.office.undo() else "nothing"
        if command == "redo":
            return "done" if self.office.redo() else "nothing"
        raise InvalidCommand()


def _lines_of(text):
    return text.replace(PARTED_BY, "\n")
