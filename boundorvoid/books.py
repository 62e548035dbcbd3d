"""Books of sheets that hold for a pact, and what follows from them."""

from itertools import combinations

from boundorvoid.checker import sheet_holds
from boundorvoid.families import in_family
from boundorvoid.questions import is_question
from boundorvoid.runs import run_liars
from boundorvoid.turns import is_part
from boundorvoid.values import is_known

CLAIMS = {
    "just": ("family",), "torn": ("family",), "holds": ("hand", "row"), "fails": ("hand", "row"),
    "not kept": ("family", "lot"),
}


class Book:
    """The sheets that were put in and hold for a pact."""

    def __init__(self, pact):
        self.pact = pact
        self.sheets = ()

    def put(self, sheet):
        """Whether any value is a sheet that holds; then it is kept."""
        if not isinstance(sheet, tuple) or len(sheet) != 3 or not sheet_holds(self.pact, sheet[0], sheet[1], sheet[2]):
            return False
        self.sheets = (*self.sheets, sheet)
        return True

    def knows(self, claim, question):
        """The numbers of the fewest sheets from which a claim follows, the least of them; None if there are none."""
        if not is_known(claim, list(CLAIMS)) or not is_question(self.pact, CLAIMS[claim], question):
            return None
        if claim == "just":
            return _fewest_covering(self.sheets, question[0])
        follows = FOLLOWS[claim]
        for at, sheet in enumerate(self.sheets):
            if follows(self.pact, sheet, question):
                return (at,)
        return None

    def moved(self, pact):
        """A new book of a pact, with those of the sheets that hold for it."""
        book = Book(pact)
        for sheet in self.sheets:
            book.put(sheet)
        return book


def _family_of_sheet(sheet):
    """The family for which a sheet shows a pact just; None if it is no such sheet."""
    kind, question, value = sheet
    if kind == "just" or kind == "safe" and question[1] == ():
        return question[0]
    return value[0] if kind == "borne" else None


def _fewest_covering(sheets, family):
    """The numbers of the fewest sheets one of which, for each lot of a family, shows a pact just for it."""
    told = [_family_of_sheet(sheet) for sheet in sheets]
    numbers = [at for at, own in enumerate(told) if own is not None]
    for many in range(1, len(numbers) + 1):
        for chosen in combinations(numbers, many):
            if all([any([in_family(told[at], lot) for at in chosen]) for lot in family]):
                return chosen
    return None


def _asks_torn_row(sheet, family):
    """Whether a sheet shows a row that fails and that a family asks."""
    return sheet[0] in ("torn", "unkept") and in_family(family, sheet[2][1][:-1])


def _follows_torn(pact, sheet, question):
    kind, _, value = sheet
    family = question[0]
    if kind == "trap":
        return all([in_family(family, run_liars(pact, run)) for run in value])
    if kind == "borne":
        return value[0] is None or not all([in_family(value[0], lot) for lot in family])
    return kind == "hopeless" or _asks_torn_row(sheet, family)


def _follows_holds(_, sheet, question):
    hand, row = question
    family = _family_of_sheet(sheet)
    if family is not None:
        return in_family(family, row[:-1])
    return sheet[0] == "ladder" and sheet[1][0] == hand and is_part(row, sheet[1][1])


def _follows_fails(_, sheet, question):
    return sheet[0] in ("torn", "unkept") and sheet[2][0] == question[0] and is_part(sheet[2][1], question[1])


def _follows_not_kept(_, sheet, question):
    family, lot = question
    if not _asks_torn_row(sheet, family):
        return False
    hand, row = sheet[2]
    return all([name in lot for name in (hand, *row)])


FOLLOWS = {
    "torn": _follows_torn, "holds": _follows_holds, "fails": _follows_fails, "not kept": _follows_not_kept,
}
