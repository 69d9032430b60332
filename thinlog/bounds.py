"""How close, how far apart and how many within a window the kept events can be."""

from thinlog.machine import table, ticks


def smallest_gap(pipeline):
    """Return the smallest difference between two consecutive kept events, over all logs."""
    rows = ticks(pipeline)
    places = sorted({after for idle, after, keeps in rows if keeps})
    # A shortest way from one kept event to the next passes no state twice.
    for gap in range(1, len(rows) + 1):
        if any([rows[place][2] for place in places]):
            return gap
        places = sorted({after for place in places for after in without_kept(rows[place])})
    # Only a pipeline beyond the document's bounds keeps no two events of any log.
    return None


def largest_gap(pipeline, limit):
    """Return the largest difference between two consecutive kept events, over the logs
    whose gaps are at most `limit`: None if there is no largest one, 0 if there is none.
    """
    rows = table(pipeline, limit)
    useful = before_kept(rows)
    since = {after: 0 for row in rows for after, keeps in row if keeps and useful[after]}
    largest = 0
    for _ in rows:
        largest = max([largest] + ended(rows, since))
        since = with_one_more_dropped(rows, useful, since)
    # With as many dropped events as states a state comes twice, and so it can any number of times.
    return None if len(since) > 0 else largest


def most_in_window(pipeline, width):
    """Return the largest number of kept events at `width` consecutive times, over all logs."""
    rows = ticks(pipeline)
    most = [0 for row in rows]
    for _ in range(width):
        most = [max(most[idle], most[after] + (1 if keeps else 0)) for idle, after, keeps in rows]
    return max(most)


def without_kept(row):
    """Return the states after a time without a kept event."""
    idle, after, keeps = row
    return [idle] if keeps else [idle, after]


def before_kept(rows):
    """Tell for each state whether any later event can be kept."""
    useful = [False for row in rows]
    for _ in rows:
        useful = [any([keeps or useful[after] for after, keeps in row]) for row in rows]
    return useful


def ended(rows, since):
    """Return the differences between kept events that the next event can end.

    `since` tells for states the largest time that can have passed since a kept event.
    """
    return [
        time + gap
        for place, time in since.items()
        for gap, (after, keeps) in enumerate(rows[place], start=1)
        if keeps
    ]


def with_one_more_dropped(rows, useful, since):
    """Return what `since` becomes with one more dropped event, for useful states only."""
    found = {}
    for place, time in since.items():
        for gap, (after, keeps) in enumerate(rows[place], start=1):
            if not keeps and useful[after]:
                found[after] = max(found.get(after, 0), time + gap)
    return found
