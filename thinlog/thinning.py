"""Pipelines applied to logs."""

from thinlog.machine import start, step


def decisions(pipeline, log):
    """Return for each event the index of the filter that drops it, or None if it is kept."""
    return [row[1] for row in trace(pipeline, log)]


def keep(pipeline, log):
    """Return the tuple of the kept events."""
    return tuple([time for time, dropper in zip(log, decisions(pipeline, log)) if dropper is None])


def stages(pipeline, log):
    """Return for each filter the tuple of the events that it keeps."""
    droppers = decisions(pipeline, log)
    return [passed(log, droppers, at) for at in range(len(pipeline))]


def influential(pipeline, log):
    """Return the indices of the events whose removal changes whether another one is kept."""
    rows = trace(pipeline, log)
    return tuple([at for at in range(len(log)) if matters(pipeline, log, rows, at)])


def trace(pipeline, log):
    """Return for each event the state after it and the index of the filter that drops it."""
    state = start(pipeline)
    rows = []
    for at in range(len(log)):
        state, dropper = step(pipeline, state, gap_before(log, at))
        rows.append((state, dropper))
    return rows


def gap_before(log, at):
    """Return the gap before an event, and for the first one, where any number does, 1."""
    return log[at] - log[at - 1] if at > 0 else 1


def passed(log, droppers, index):
    """Return the tuple of the events that the filter at the index keeps."""
    return tuple([time for time, at in zip(log, droppers) if at is None or at > index])


def matters(pipeline, log, rows, index):
    """Tell whether the log without the event at the index has other kept events."""
    state = rows[index - 1][0] if index > 0 else start(pipeline)
    last = log[index] - gap_before(log, index)
    for at in range(index + 1, len(log)):
        state, dropper = step(pipeline, state, log[at] - last)
        last = log[at]
        if (dropper is None) != (rows[at][1] is None):
            return True
        # Equal states have equal futures: nothing changes from here on.
        if state == rows[at][0]:
            return False
    return False
