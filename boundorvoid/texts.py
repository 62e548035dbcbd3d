"""Pacts as texts."""

from boundorvoid.errors import InvalidText
from boundorvoid.pacts import Pact
from boundorvoid.parts import MOST_NOTES, are_hands, are_ready, is_note, is_paper


def pact_text(pact):
    """The text of a pact, a line for the hands, each note, the ready notes and the paper."""
    lines = [("hands", *pact.hands)]
    for name, hand, waits in pact.notes:
        lines.append(("note", name, hand, *waits))
    lines.append(("ready", *pact.ready))
    lines.append(("paper", *pact.paper))
    return "\n".join([" ".join(words) for words in lines])


def read_pact(text):
    """The pact with this text."""
    if not isinstance(text, str):
        raise InvalidText(-1)
    lines = [line.split(" ") for line in text.split("\n")]
    hands = _words_behind(lines, 0, "hands")
    if not are_hands(hands):
        raise InvalidText(0)
    notes = _read_notes(lines, hands)
    at = 1 + len(notes)
    ready = _words_behind(lines, at, "ready")
    if not are_ready(ready, hands, {note[0]: note[1] for note in notes}):
        raise InvalidText(at)
    paper = _words_behind(lines, at + 1, "paper")
    if not is_paper(paper, hands, notes):
        raise InvalidText(at + 1)
    if len(lines) > at + 2:
        raise InvalidText(at + 2)
    return Pact(hands, notes, ready, paper)


def _words_behind(lines, at, head):
    """The words behind the first one of a line, which must be there and begin with that word."""
    if at >= len(lines) or lines[at][0] != head:
        raise InvalidText(at)
    return tuple(lines[at][1:])


def _read_notes(lines, hands):
    """The notes of the lines behind the first one that begin as notes do, as many as a pact may have."""
    notes = []
    owners = {}
    for words in lines[1:MOST_NOTES + 1]:
        if words[0] != "note":
            break
        note = _note_of(words)
        if not is_note(note, hands, owners):
            raise InvalidText(len(notes) + 1)
        notes.append(note)
        owners[note[0]] = note[1]
    return notes


def _note_of(words):
    """The note that the words of a line tell, or None if there are too few."""
    if len(words) < 3:
        return None
    return words[1], words[2], tuple(words[3:])
