"""A pipeline as a machine that reads the gaps of a log, one for each event.

The state of an "every" filter is the number of its earlier input events, as a remainder.
The state of any other filter is the ascending tuple of its waits: for each event that
still holds back later ones, the smallest gap to the next event at which it no longer does.
States hold no times, so that there are few of them and equal ones have equal futures.
"""

from thinlog.filters import hold


def start(pipeline):
    """Return the state before the first event."""
    return tuple([0 if one[0] == "every" else () for one in pipeline])


def step(pipeline, state, gap):
    """Read an event, `gap` after the last one of the log.

    Return the new state, and the index of the filter that drops the event or None.
    Nothing is held back before the first event, so that its gap may be any number.
    """
    after = []
    dropper = None
    for at, one in enumerate(pipeline):
        arrives = dropper is None
        if one[0] == "every":
            part, keeps = step_counting(one, state[at], arrives)
        else:
            part, keeps = step_waiting(one, state[at], gap, arrives)
        after.append(part)
        if arrives and not keeps:
            dropper = at
    return tuple(after), dropper


def step_counting(one, count, arrives):
    """Return the new state of an "every" filter, and whether it keeps what arrives."""
    if not arrives:
        return count, False
    # A divisor below 1 leaves no remainders; it must raise no error either.
    return (count + 1) % max(one[1], 1), count == one[2]


def step_waiting(one, waits, gap, arrives):
    """Return the new state of another filter, and whether it keeps what arrives."""
    left = [wait - gap for wait in waits if wait > gap]
    # A spaced filter is a limit of one event; a fresh one is held back by dropped events too.
    most = one[1] if one[0] == "limit" else 1
    keeps = arrives and len(left) < most
    if arrives and one[0] == "fresh":
        left = [hold(one)]
    elif keeps:
        left.append(hold(one))
    # The next gap is at least 1: a wait of 1 has no effect and would only add states.
    return tuple([wait for wait in left if wait > 1]), keeps


def table(pipeline, widest):
    """Number all states from 0, the start, and return a row for each of them.

    Item `gap - 1` of a row, for the gaps from 1 to `widest`, is a pair: the number of
    the state after an event at this gap, and whether the event is kept.
    """
    states = [start(pipeline)]
    numbers = {states[0]: 0}
    rows = []
    while len(rows) < len(states):
        row = []
        for gap in range(1, widest + 1):
            after, dropper = step(pipeline, states[len(rows)], gap)
            if after not in numbers:
                numbers[after] = len(states)
                states.append(after)
            row.append((numbers[after], dropper is None))
        rows.append(row)
    return rows
