"""Alike runs: the same asks, and the same for each hand, but notes sent earlier or later."""

from boundorvoid.pacts import hand_of, lies_under
from boundorvoid.runs import ASK, SEND, need_run


def run_spans(pact, run):
    """For each sent note, in told order, how few and how many asks may be ahead of it in alike runs."""
    need_run(pact, run)
    lows, highs = _own_bounds(pact, run)
    sent = [name for name in pact.names if name in lows]
    spans = {}
    for name in sent:
        fewest = max([lows[other] for other in sent if lies_under(pact, other, name)])
        most = min([highs[other] for other in sent if lies_under(pact, name, other)])
        spans[name] = (fewest, most)
    return spans


def _own_bounds(pact, run):
    """How many asks are ahead of each sent note, at least and at most, by its hand's asks and what is shown."""
    lows = {}
    highs = {}
    behind_own = {}
    many = 0
    for event in run:
        if event[0] == SEND:
            lows[event[1]] = behind_own.get(hand_of(pact, event[1]), 0)
        else:
            for name in lows:
                if event[1] == hand_of(pact, name) or name in event[2]:
                    highs.setdefault(name, many)
            many = many + 1
            behind_own[event[1]] = many
    return lows, {name: highs.get(name, many) for name in lows}


def eager_run(pact, run):
    """The alike run in which each note is sent behind the fewest asks."""
    return _run_with(run, {name: span[0] for name, span in run_spans(pact, run).items()})


def late_run(pact, run):
    """The alike run in which each note is sent behind the most asks."""
    return _run_with(run, {name: span[1] for name, span in run_spans(pact, run).items()})


def _run_with(run, places):
    """The run with the same asks in which each note stands behind so many of them; notes are in told order."""
    asks = [event for event in run if event[0] == ASK]
    events = []
    for many in range(len(asks) + 1):
        events.extend([(SEND, name) for name, place in places.items() if place == many])
        events.extend(asks[many:many + 1])
    return tuple(events)
