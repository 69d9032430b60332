"""A pipeline as a machine that reads a log: gap by gap, or one unit of time by another.

The state of an "every" filter is the number of its earlier input events, as a remainder.
The state of any other filter is the ascending tuple of its waits: for each event that
still holds back later ones, the smallest gap from now on at which it no longer does.
States hold no times, so that there are few of them and equal ones have equal futures.
"""

from thinlog.filters import hold


def start(pipeline):
    """Return the state before the first event."""
    return tuple([0 if one[0] == "every" else () for one in pipeline])


def step(pipeline, state, gap):
    """Read an event, `gap` after the time of the state: the last event, or a later time.

    Return the new state, and the index of the filter that drops the event or None.
    Nothing is held back before the first event, so that its gap may be any number.
    """
    after = []
    dropper = None
    for at, one in enumerate(pipeline):
        arrives = dropper is None
        if one[0] == "every":
            part, keeps = step_counting(one, state[at], arrives)
        else:
            part, keeps = step_waiting(one, state[at], gap, arrives)
        after.append(part)
        if arrives and not keeps:
            dropper = at
    return tuple(after), dropper


def step_counting(one, count, arrives):
    """Return the new state of an "every" filter, and whether it keeps what arrives."""
    if not arrives:
        return count, False
    # A divisor below 1 leaves no remainders; it must raise no error either.
    return (count + 1) % max(one[1], 1), count == one[2]


def step_waiting(one, waits, gap, arrives):
    """Return the new state of another filter, and whether it keeps what arrives."""
    left = [wait - gap for wait in waits if wait > gap]
    # A spaced filter is a limit of one event; a fresh one is held back by dropped events too.
    most = one[1] if one[0] == "limit" else 1
    keeps = arrives and len(left) < most
    if arrives and one[0] == "fresh":
        left = [hold(one)]
    elif keeps:
        left.append(hold(one))
    # The next gap is at least 1: a wait of 1 has no effect and would only add states.
    return tuple([wait for wait in left if wait > 1]), keeps


def rest(pipeline, state):
    """Return the state one unit of time later, without an event."""
    after = []
    for at, one in enumerate(pipeline):
        if one[0] == "every":
            after.append(state[at])
        else:
            # As behind an event, a wait that would shrink to 1 has no effect.
            after.append(tuple([wait - 1 for wait in state[at] if wait > 2]))
    return tuple(after)


def table(pipeline, widest):
    """Number all states from 0, the start, and return a row for each of them.

    Item `gap - 1` of a row, for the gaps from 1 to `widest`, is a pair: the number of
    the state after an event at this gap, and whether the event is kept.
    """
    def moves(state):
        steps = [step(pipeline, state, gap) for gap in range(1, widest + 1)]
        return [(after, dropper is None) for after, dropper in steps]

    return numbered(start(pipeline), moves)


def ticks(pipeline):
    """Number all states from 0, the start, and return a row for each of them.

    Here the machine goes on by one unit of time, whether there is an event or not. A row
    is a triple: the number of the state after a time without an event, the number of the
    state after a time with an event, and whether this event is kept.
    """
    def moves(state):
        after, dropper = step(pipeline, state, 1)
        return [(rest(pipeline, state), False), (after, dropper is None)]

    rows = numbered(start(pipeline), moves)
    return [(idle[0], event[0], event[1]) for idle, event in rows]


def numbered(first, moves):
    """Number all states that moves lead to, from 0 for the first, and return their moves.

    `moves` gives for a state a list of pairs: the state after a move, and whether an
    event is kept. The list that is returned for it has the numbers of these states.
    """
    states = [first]
    numbers = {first: 0}
    rows = []
    while len(rows) < len(states):
        following = moves(states[len(rows)])
        row = []
        for after, keeps in following:
            if after not in numbers:
                numbers[after] = len(states)
                states.append(after)
            row.append((numbers[after], keeps))
        rows.append(row)
    return rows
