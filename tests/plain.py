"""The definitions of the document, followed word by word, to compare the program with.

Nothing here uses the program. Filters read absolute times and look back at all of their
input events; pipelines are compared by trying logs, or by trying all pairs of histories.
"""

from itertools import combinations, product

FILTERS = (
    [("spaced", d) for d in range(1, 9)]
    + [("fresh", d) for d in range(1, 9)]
    + [("every", n, k) for n in range(2, 5) for k in range(n)]
    + [("limit", n, w) for n in range(1, 4) for w in range(1, 7)]
)

WEIGHTS = {one: one[1] for one in FILTERS}
WEIGHTS.update({one: one[1] + 1 for one in FILTERS if one[0] == "fresh"})
WEIGHTS.update({one: one[1] * one[2] for one in FILTERS if one[0] == "limit"})

# Few filters with small parameters, for searches that try all pairs of pipelines.
SMALL = [
    ("spaced", 1), ("spaced", 2), ("spaced", 3), ("fresh", 1), ("fresh", 2),
    ("every", 2, 0), ("every", 2, 1), ("limit", 1, 2), ("limit", 2, 2), ("limit", 2, 3),
]
SMALL_PIPELINES = [()] + [(one,) for one in SMALL] + list(product(SMALL, repeat=2))


def weight(pipeline):
    total = 1
    for one in pipeline:
        total *= WEIGHTS[one]
    return total


def keeps(one, earlier, kept, time):
    """Whether a filter with these earlier input events and kept events keeps an event."""
    if one[0] == "spaced":
        return not kept or kept[-1] <= time - one[1]
    if one[0] == "fresh":
        return not earlier or earlier[-1] < time - one[1]
    if one[0] == "every":
        return len(earlier) % one[1] == one[2]
    return len([event for event in kept if event > time - one[2]]) < one[1]


def thin(one, events):
    kept = []
    for at, time in enumerate(events):
        if keeps(one, events[:at], kept, time):
            kept.append(time)
    return tuple(kept)


def stages(pipeline, log):
    found = []
    for one in pipeline:
        log = thin(one, log)
        found.append(log)
    return found


def keep(pipeline, log):
    return ([log] + stages(pipeline, log))[-1]


def decisions(pipeline, log):
    found = []
    for time in log:
        drops = [at for at, events in enumerate(stages(pipeline, log)) if time not in events]
        found.append(drops[0] if drops else None)
    return found


def influential(pipeline, log):
    found = []
    for at, time in enumerate(log):
        others = tuple(event for event in keep(pipeline, log) if event != time)
        less = keep(pipeline, log[:at] + log[at + 1:])
        if others != less:
            found.append(at)
    return tuple(found)


def logs(last):
    """All logs with times from 0 to `last`."""
    times = range(last + 1)
    return [log for many in range(last + 2) for log in combinations(times, many)]


def logs_from_zero(many, widest):
    """All logs that begin at 0, have so many events and no larger gaps, in ascending order."""
    found = []
    for gaps in product(range(1, widest + 1), repeat=many - 1):
        times = [0]
        for gap in gaps:
            times.append(times[-1] + gap)
        found.append(tuple(times))
    return found


def differs(first, second, log):
    return keep(first, log) != keep(second, log)


def lacks(first, second, log):
    """Whether the log has an event that the second pipeline keeps and the first one drops."""
    kept = keep(first, log)
    return any(time not in kept for time in keep(second, log))


class Run:
    """A pipeline in the middle of a log: each filter's earlier input events and kept events."""

    def __init__(self, pipeline, parts=None):
        self.pipeline = pipeline
        self.parts = parts or [((), ()) for _ in pipeline]

    def after(self, time):
        """The run after one more event, and whether it is kept."""
        parts = list(self.parts)
        for at, one in enumerate(self.pipeline):
            earlier, kept = parts[at]
            stays = keeps(one, earlier, kept, time)
            parts[at] = (earlier + (time,), kept + (time,) if stays else kept)
            if not stays:
                return Run(self.pipeline, parts), False
        return Run(self.pipeline, parts), True

    def outlook(self, now):
        """All that later decisions can depend on."""
        return tuple(
            self.view(one, earlier, kept, now)
            for one, (earlier, kept) in zip(self.pipeline, self.parts)
        )

    def view(self, one, earlier, kept, now):
        if one[0] == "every":
            return len(earlier) % one[1]
        events = earlier if one[0] == "fresh" else kept
        many = one[1] if one[0] == "limit" else 1
        return tuple(now - time for time in events[-many:] if now - time <= one[-1])


def search(first, second, wanted):
    """The first of the shortest logs with a wanted pair of decisions on its last event.

    This tries log after log, all logs of a length before the longer ones, and goes on only
    from the first log for each pair of outlooks. Gaps of 10 have the effect of all larger ones.
    """
    seen = set()
    layer = [((), Run(first), Run(second))]
    while layer:
        following = []
        for log, left, right in layer:
            for gap in range(1, 11) if log else [0]:
                now = log[-1] + gap if log else 0
                (one, one_keeps), (other, other_keeps) = left.after(now), right.after(now)
                if (one_keeps, other_keeps) in wanted:
                    return log + (now,)
                outlook = (one.outlook(now), other.outlook(now))
                if outlook not in seen:
                    seen.add(outlook)
                    following.append((log + (now,), one, other))
        layer = following
    return None


def searched_difference(first, second):
    return search(first, second, [(True, False), (False, True)])


def searched_counterexample(first, second):
    return search(first, second, [(False, True)])
