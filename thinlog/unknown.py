"""Unknown parameters and unknown logs, found from the events that were kept."""

from thinlog.filters import LARGEST_PARAMETER
from thinlog.machine import ticks
from thinlog.thinning import keep


def possible_last(pipeline, name, log, kept):
    """Return the smallest and the largest `d` of a last filter that leaves `kept`, or None."""
    found = possible_values(pipeline + ((name, 1),), len(pipeline), log, kept)
    if len(found) == 0:
        return None
    return found[0], found[-1]


def possible_values(pipeline, index, log, kept):
    """Return the list of all `d` for the filter at the index with which `kept` is left."""
    numbers = range(1, LARGEST_PARAMETER + 1)
    return [d for d in numbers if keep(with_value(pipeline, index, d), log) == kept]


def fewest_events(pipeline, times):
    """Return the first of the shortest logs, none later than the last time, that leave `times`.

    Return None if there is none.
    """
    # No times and times below 0 are beyond the document's bounds.
    if len(times) == 0:
        return ()
    if times[0] < 0:
        return None
    rows = ticks(pipeline)
    # The best log so far for each state: the fewest events first, then the first of these.
    best = {0: (0, ())}
    for time in range(times[-1] + 1):
        best = best_at(rows, best, time, time in times)
    if len(best) == 0:
        return None
    return min(best.values())[1]


def count_sources(pipeline, times, last):
    """Return how many logs up to the time `last` leave exactly `times`."""
    return ways_on(ticks(pipeline), times, last)[0][0]


def source_events(pipeline, times, last):
    """Return the times of events that all logs of `count_sources` have, and those that any has.

    Return None if there is no such log.
    """
    rows = ticks(pipeline)
    ways = ways_on(rows, times, last)
    if ways[0][0] == 0:
        return None
    always = []
    sometimes = []
    places = [0]
    for time in range(last + 1):
        moves = [move for place in places for move in choices(rows[place], time in times)]
        # Only moves from which some log can go on to the end are part of a log.
        moves = [(after, event) for after, event in moves if ways[time + 1][after] > 0]
        events = [event for after, event in moves]
        if False not in events:
            always.append(time)
        if True in events:
            sometimes.append(time)
        places = sorted({after for after, event in moves})
    return tuple(always), tuple(sometimes)


def with_value(pipeline, index, d):
    """Return the pipeline with this parameter of the filter at the index."""
    return pipeline[:index] + ((pipeline[index][0], d),) + pipeline[index + 1:]


def choices(row, given):
    """Return the states to which a time can lead, each with whether the time has an event.

    A given time has a kept event; any other has no event, or one that is dropped.
    """
    idle, after, keeps = row
    if given:
        return [(after, True)] if keeps else []
    return [(idle, False)] if keeps else [(idle, False), (after, True)]


def best_at(rows, best, time, given):
    """Return the best log for each state after the time, from those before it."""
    found = {}
    for place, (many, log) in best.items():
        for after, event in choices(rows[place], given):
            longer = (many + 1, log + (time,)) if event else (many, log)
            found[after] = min(found.get(after, longer), longer)
    return found


def ways_on(rows, times, last):
    """Return for each time, and for each state before it, how many logs go on from there.

    The item behind the time `last` stands for the end of all logs.
    """
    # A given time beyond the last one, which the document excludes, is in no log.
    fits = all([0 <= time <= last for time in times])
    layers = [[1 if fits else 0 for row in rows]]
    for time in reversed(range(last + 1)):
        after = layers[-1]
        layers.append([ways_at(row, after, time in times) for row in rows])
    layers.reverse()
    return layers


def ways_at(row, after, given):
    """Return in how many ways logs go on from a state, by the ways from the states after it."""
    return sum([after[place] for place, event in choices(row, given)])
