"""Two pipelines compared for all logs."""

from thinlog.filters import reach
from thinlog.machine import table

# Pairs of what the first and the second pipeline do with an event: True if it is kept.
ONLY_SECOND_KEEPS = ((False, True),)
ONLY_ONE_KEEPS = ((False, True), (True, False))


def first_difference(first, second):
    """Return the first of the shortest logs of which different events are kept, or None."""
    return shortest_log(first, second, ONLY_ONE_KEEPS)


def equal(first, second):
    """Tell whether the pipelines keep the same events of every log."""
    return first_difference(first, second) is None


def counterexample(first, second):
    """Return the first of the shortest logs with an event that only the second keeps, or None."""
    return shortest_log(first, second, ONLY_SECOND_KEEPS)


def contains(first, second):
    """Tell whether the first pipeline keeps all that the second one keeps."""
    return counterexample(first, second) is None


def shortest_log(first, second, wanted):
    """Return the first of the shortest logs with an event of a wanted pair, or None.

    Pairs of states are searched by the number of events, and each pair is reached first
    by the first log that leads to it: the queue is in the order of these logs.
    """
    widest = max(reach(first), reach(second))
    left = table(first, widest)
    right = table(second, widest)
    origins = {(0, 0): None}
    queue = [(0, 0)]
    at = 0
    while at < len(queue):
        place = queue[at]
        at += 1
        for gap in range(1, widest + 1):
            one, first_keeps = left[place[0]][gap - 1]
            other, second_keeps = right[place[1]][gap - 1]
            if (first_keeps, second_keeps) in wanted:
                return log_to(origins, place, gap)
            if (one, other) not in origins:
                origins[(one, other)] = (place, gap)
                queue.append((one, other))
    return None


def log_to(origins, place, gap):
    """Return the log that leads to the place, and one more event after the gap."""
    gaps = [gap]
    while origins[place] is not None:
        place, gap = origins[place]
        gaps.append(gap)
    # The last one found is the gap before the first event, which stands at time 0.
    gaps.pop()
    times = [0]
    while gaps:
        times.append(times[-1] + gaps.pop())
    return tuple(times)
