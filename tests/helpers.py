"""Small pacts for the tests, and slow answers that are read straight off the document."""

import itertools
import random

from boundorvoid.pacts import Pact
from boundorvoid.runs import run_heard, run_liars
from boundorvoid.texts import read_pact
from boundorvoid.wrongs import good_answers

BASE = ["hands a b", "note m a", "note n b m", "note o a n", "note p b o"]


def base_pact(paper="p"):
    """The pact of most examples of the document."""
    return read_pact("\n".join(BASE + ["ready m n", "paper " + paper]))


def chain_pact(hands, many, paper=None):
    """A pact whose notes, one hand behind the other, each wait for all ahead."""
    names = note_names(many)
    notes = [(names[k], hands[k % len(hands)], tuple(sorted(names[:k]))) for k in range(many)]
    return Pact(hands, notes, names[:len(hands)], paper or (names[-1],))


def loose_pact(levels, waits=()):
    """A pact of hands a, b, .. with so many notes each, which wait for nothing but their own hand's."""
    hands = tuple("abcdef"[:len(levels)])
    notes = [(hand + "abcdefghijklmnopqrstuvwxyz"[k // 26] + "abcdefghijklmnopqrstuvwxyz"[k % 26], hand, waits)
             for hand, many in zip(hands, levels) for k in range(many)]
    firsts = [hand + "aa" for hand in hands]
    return Pact(hands, notes, firsts, tuple(firsts))


def note_names(many):
    letters = "abcdefghijklmnopqrstuvwxyz"
    return tuple(letters[k // 26] + letters[k % 26] for k in range(many))


def random_pact(rng, many_hands, many_notes, density):
    """A pact with names in no order, and waits as dense as told."""
    hands = rng.sample("abcdxyz", many_hands)
    names = rng.sample([one + other for one in "abm" for other in "akxz"] + list("amnoz"), many_notes)
    owners = hands + [rng.choice(hands) for _ in range(many_notes - many_hands)]
    rng.shuffle(owners)
    notes = []
    for at, name in enumerate(names):
        waits = [other for other in names[:at] if rng.random() < density]
        notes.append((name, owners[at], tuple(sorted(waits))))
    ready = []
    for hand in hands:
        own = [name for name, owner in zip(names, owners) if owner == hand]
        ready.append(rng.choice(own[:2] + own[:1]))
    while True:
        paper = tuple(sorted(name for name in names if rng.random() < 0.4))
        under = naive_under(notes)
        whole = set().union(*(under[name] for name in paper)) if paper else set()
        if {owner for name, owner in zip(names, owners) if name in whole} == set(hands):
            return Pact(hands, notes, ready, paper)


def small_pacts(seed, many, hands=(2, 3), notes=(3, 7), density=(0.1, 0.35, 0.6)):
    """So many pacts of these sizes, always the same for a seed."""
    rng = random.Random(seed)
    pacts = []
    while len(pacts) < many:
        many_hands = rng.randint(*hands)
        many_notes = rng.randint(max(notes[0], many_hands), notes[1])
        pacts.append(random_pact(rng, many_hands, many_notes, rng.choice(density)))
    return pacts


def close_pacts(seed, many, hands=(2, 3), notes=(5, 9)):
    """So many pacts whose notes mostly wait for all ahead and are in the paper, as those must that are just."""
    rng = random.Random(seed)
    pacts = []
    for _ in range(many):
        told = "".join(rng.sample("abcdxyz", rng.randint(*hands)))
        size = rng.randint(max(notes[0], len(told) * 2), max(notes[1], len(told) * 2))
        owners = list(told) + [rng.choice(told) for _ in range(size - len(told))]
        for at in range(len(told), min(2 * len(told), size)):
            owners[at] = told[at - len(told)]
        names = rng.sample(note_names(40), size)
        dense = rng.choice((0.6, 0.8, 0.95))
        told_notes = [(name, owner, tuple(sorted(other for other in names[:at] if rng.random() < dense)))
                      for at, (name, owner) in enumerate(zip(names, owners))]
        paper = names[-1:] + rng.sample(names, size // 2)
        under = naive_under(told_notes)
        whole = set().union(*(under[name] for name in paper))
        if {owner for name, owner in zip(names, owners) if name in whole} == set(told):
            pacts.append(Pact(tuple(told), told_notes, names[:len(told)], tuple(sorted(set(paper)))))
    return pacts


def naive_under(notes):
    """What lies under each note: by the waits, and each hand's last note ahead."""
    under, newest = {}, {}
    for name, hand, waits in notes:
        under[name] = {name}.union(*(under[wait] for wait in waits))
        if hand in newest:
            under[name] |= under[newest[hand]]
        newest[hand] = name
    return under


def owners_of(pact):
    return {name: hand for name, hand, _ in pact.notes}


def naive_moments(pact):
    """All lots of notes with all that lies under them."""
    under = naive_under(pact.notes)
    lots = subsets(sorted(pact.names))
    return [lot for lot in lots if all(under[name] <= set(lot) for name in lot)]


def subsets(things):
    return [lot for many in range(len(things) + 1) for lot in itertools.combinations(things, many)]


def naive_whole(pact):
    under = naive_under(pact.notes)
    return set().union(*(under[name] for name in pact.paper))


def all_runs(pact, most_events=99, twice=False):
    """All runs in which each hand asks at most once (or twice)."""
    under = naive_under(pact.notes)
    moments = naive_moments(pact)
    many = 2 if twice else 1
    runs, found = [()], [()]
    while found:
        longer = []
        for run in found:
            sent = {event[1] for event in run if event[0] == "send"}
            asked = [event[1] for event in run if event[0] == "ask"]
            if len(run) == most_events:
                continue
            for name in pact.names:
                if name not in sent and under[name] - {name} <= sent:
                    longer.append(run + (("send", name),))
            for hand in pact.hands:
                if asked.count(hand) < many:
                    longer.extend(run + (("ask", hand, moment),) for moment in moments if set(moment) <= sent)
        runs.extend(longer)
        found = longer
    return runs


def random_run(rng, pact, most=14, ask=0.35):
    """A run in which hands ask at any time, perhaps again."""
    under = naive_under(pact.notes)
    moments = naive_moments(pact)
    run, sent = [], set()
    for _ in range(rng.randint(0, most)):
        free = [name for name in pact.names if name not in sent and under[name] - {name} <= sent]
        if free and rng.random() >= ask:
            run.append(("send", rng.choice(free)))
            sent.add(run[-1][1])
        else:
            shown = [moment for moment in moments if set(moment) <= sent]
            run.append(("ask", rng.choice(pact.hands), rng.choice(shown + shown[-1:] * 3)))
    return tuple(run)


def random_asks(rng, pact, many=None):
    """Asks of unlike hands with any moments, those of few notes and of many alike."""
    moments = naive_moments(pact)
    hands = rng.sample(pact.hands, rng.randint(0, len(pact.hands)) if many is None else many)
    return tuple((hand, rng.choice(moments)) for hand in hands)


def rising_asks(rng, pact, many=None):
    """Asks of unlike hands, each of whom mostly shows what was shown ahead, and more."""
    moments = naive_moments(pact)
    hands = rng.sample(pact.hands, rng.randint(0, len(pact.hands)) if many is None else many)
    asks, shown = [], ()
    for hand in hands:
        if rng.random() < 0.8:
            shown = rng.choice([moment for moment in moments if set(shown) <= set(moment)])
        asks.append((hand, shown if rng.random() < 0.7 else rng.choice(moments)))
    return tuple(asks)


def random_history(rng, pact, many=None, bound=0.2):
    """Asks with any answers, most of them void."""
    asks = rng.choice((random_asks, rising_asks))(rng, pact, many)
    return tuple((hand, moment, "bound" if rng.random() < bound else "void") for hand, moment in asks)


def random_rule(seed):
    """A rule whose answers are drawn, but the same for the same arguments."""
    told = {}

    def rule(history, hand, moment):
        key = (history, hand, moment)
        if key not in told:
            told[key] = random.Random(f"{seed} {key!r}").choice(("bound", "void", "void"))
        return told[key]

    return rule


def all_families(hands):
    """All families of a lot of hands."""
    lots = subsets(sorted(hands))
    families = []

    def grow(family, at):
        if at == len(lots):
            if family:
                families.append(tuple(sorted(family)))
            return
        grow(family, at + 1)
        if all(not set(lots[at]) <= set(lot) and not set(lot) <= set(lots[at]) for lot in family):
            grow(family + [lots[at]], at + 1)

    grow([], 0)
    return families


def all_rows(hands):
    """All rows of unlike hands, those of fewer hands first, then ascending."""
    return [row for many in range(1, len(hands) + 1) for row in itertools.permutations(sorted(hands), many)]


def raised(error, call, *told, **named):
    """What an error keeps that a call must raise: exactly this class."""
    try:
        got = call(*told, **named)
    except Exception as wrong:
        if wrong.__class__ is not error:
            raise
        kept = [value for value in vars(wrong).values()]
        return kept[0] if kept else None
    raise AssertionError(f"{error.__name__} was not raised, but {got!r} returned")


def games(pact):
    """All runs of a pact, each with its liars, its heard, and the tuples of answers that wrong somebody there."""
    found = []
    for run in all_runs(pact):
        heard = run_heard(pact, run)
        rows = set(itertools.product(("bound", "void"), repeat=len(heard))) - set(good_answers(pact, run))
        found.append((run_liars(pact, run), heard, rows))
    return found


class Game:
    """What a notary can still reach behind some asks and answers, if just the runs that fit a family come."""

    def __init__(self, games, family):
        self.wrong, self.longer = {(): set()}, {}
        for liars, heard, rows in games:
            if any(set(liars) <= set(lot) for lot in family):
                self.wrong.setdefault(heard, set()).update(rows)
        for heard in list(self.wrong):
            for many in range(len(heard)):
                self.wrong.setdefault(heard[:many], set())
        for heard in self.wrong:
            if heard:
                self.longer.setdefault(heard[:-1], []).append(heard)
        self.known = {}

    def is_possible(self, heard):
        return heard in self.wrong

    def is_safe(self, heard, answers):
        """Whether some rule with these answers is wrong in no such run whose first asks begin with these."""
        key = heard, answers
        if key not in self.known:
            self.known[key] = answers not in self.wrong[heard] and all(
                any(self.is_safe(longer, answers + (answer,)) for answer in ("bound", "void"))
                for longer in self.longer.get(heard, []))
        return self.known[key]


def random_log(rng, pact, most=6, again=0.4):
    """A log: asks of any hands, some of which come again, with the same answer as before or with another one."""
    history = random_history(rng, pact)
    log, moments = list(history), naive_moments(pact)
    while log and len(log) < most and rng.random() < again:
        hand, _, answer = rng.choice(log)
        answer = answer if rng.random() < 0.7 else rng.choice(("bound", "void"))
        log.insert(rng.randint(0, len(log)), (hand, rng.choice(moments), answer))
    return tuple(log)
