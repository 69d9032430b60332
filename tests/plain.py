"""The definitions of the document, followed word by word, to compare the program with.

Nothing here uses the program. Filters read absolute times and look back at all of their
input events; pipelines are compared by trying logs, or by trying all pairs of histories.
"""

from heapq import heapify, heappop, heappush
from itertools import combinations, product

FILTERS = (
    [("spaced", d) for d in range(1, 9)]
    + [("fresh", d) for d in range(1, 9)]
    + [("every", n, k) for n in range(2, 5) for k in range(n)]
    + [("limit", n, w) for n in range(1, 4) for w in range(1, 7)]
)

WEIGHTS = {one: one[1] for one in FILTERS}
WEIGHTS.update({one: one[1] + 1 for one in FILTERS if one[0] == "fresh"})
WEIGHTS.update({one: one[1] * one[2] for one in FILTERS if one[0] == "limit"})

# Few filters with small parameters, for searches that try all pairs of pipelines.
SMALL = [
    ("spaced", 1), ("spaced", 2), ("spaced", 3), ("fresh", 1), ("fresh", 2),
    ("every", 2, 0), ("every", 2, 1), ("limit", 1, 2), ("limit", 2, 2), ("limit", 2, 3),
]
SMALL_PIPELINES = [()] + [(one,) for one in SMALL] + list(product(SMALL, repeat=2))

# Pipelines with large products of weights.
HEAVY = [
    (("every", 4, 1), ("every", 4, 3), ("every", 3, 1)),
    (("every", 3, 2), ("every", 2, 1), ("every", 3, 1), ("every", 3, 1)),
    (("every", 4, 1), ("every", 4, 3), ("every", 2, 0)),
    (("every", 3, 0), ("every", 4, 3), ("every", 4, 3)),
    (("every", 3, 2), ("every", 3, 0), ("limit", 1, 6)),
    (("every", 3, 2), ("every", 4, 0), ("every", 4, 3)),
    (("limit", 2, 6), ("every", 3, 2)),
    (("limit", 3, 6), ("every", 3, 1)),
    (("every", 3, 1), ("limit", 3, 6)),
    (("limit", 2, 5), ("spaced", 6)),
    (("limit", 3, 4), ("fresh", 4)),
    (("spaced", 7), ("fresh", 7)),
    (("fresh", 7), ("spaced", 7)),
    (("fresh", 8), ("every", 3, 0), ("spaced", 2)),
    (("spaced", 5), ("every", 4, 0), ("every", 3, 0)),
    (("every", 3, 0), ("every", 4, 0), ("spaced", 5)),
    (("every", 4, 0), ("limit", 3, 5)),
    (("spaced", 2), ("fresh", 2), ("limit", 1, 3), ("every", 3, 0)),
]


def weight(pipeline):
    total = 1
    for one in pipeline:
        total *= WEIGHTS[one]
    return total


def random_log(source, most):
    times = [source.choice([0, 0, 1, 5, 10 ** 8])]
    for _ in range(source.randint(0, most)):
        times.append(times[-1] + source.choice([1, 1, 1, 2, 2, 3, 4, 5, 6, 7, 8, 9, 10, 50]))
    return tuple(times[:source.randint(0, most)])


def random_pipeline(source):
    while True:
        many = source.randint(0, 4)
        pipeline = tuple(source.choice(FILTERS) for _ in range(many))
        if weight(pipeline) <= 60:
            return pipeline


def keeps(one, earlier, kept, time):
    """Whether a filter with these earlier input events and kept events keeps an event."""
    if one[0] == "spaced":
        return not kept or kept[-1] <= time - one[1]
    if one[0] == "fresh":
        return not earlier or earlier[-1] < time - one[1]
    if one[0] == "every":
        return len(earlier) % one[1] == one[2]
    return len([event for event in kept if event > time - one[2]]) < one[1]


def thin(one, events):
    kept = []
    for at, time in enumerate(events):
        if keeps(one, events[:at], kept, time):
            kept.append(time)
    return tuple(kept)


def stages(pipeline, log):
    found = []
    for one in pipeline:
        log = thin(one, log)
        found.append(log)
    return found


def keep(pipeline, log):
    return ([log] + stages(pipeline, log))[-1]


def decisions(pipeline, log):
    found = []
    for time in log:
        drops = [at for at, events in enumerate(stages(pipeline, log)) if time not in events]
        found.append(drops[0] if drops else None)
    return found


def influential(pipeline, log):
    found = []
    for at, time in enumerate(log):
        others = tuple(event for event in keep(pipeline, log) if event != time)
        less = keep(pipeline, log[:at] + log[at + 1:])
        if others != less:
            found.append(at)
    return tuple(found)


def logs(last):
    """All logs with times from 0 to `last`."""
    times = range(last + 1)
    return [log for many in range(last + 2) for log in combinations(times, many)]


def logs_from_zero(many, widest):
    """All logs that begin at 0, have so many events and no larger gaps, in ascending order."""
    found = []
    for gaps in product(range(1, widest + 1), repeat=many - 1):
        times = [0]
        for gap in gaps:
            times.append(times[-1] + gap)
        found.append(tuple(times))
    return found


def differs(first, second, log):
    return keep(first, log) != keep(second, log)


def lacks(first, second, log):
    """Whether the log has an event that the second pipeline keeps and the first one drops."""
    kept = keep(first, log)
    return any(time not in kept for time in keep(second, log))


class Run:
    """A pipeline in the middle of a log: each filter's earlier input events and kept events."""

    def __init__(self, pipeline, parts=None):
        self.pipeline = pipeline
        self.parts = parts or [((), ()) for _ in pipeline]

    def after(self, time):
        """The run after one more event, and whether it is kept."""
        parts = list(self.parts)
        for at, one in enumerate(self.pipeline):
            earlier, kept = parts[at]
            stays = keeps(one, earlier, kept, time)
            parts[at] = (earlier + (time,), kept + (time,) if stays else kept)
            if not stays:
                return Run(self.pipeline, parts), False
        return Run(self.pipeline, parts), True

    def outlook(self, now):
        """All that later decisions can depend on."""
        return tuple(
            self.view(one, earlier, kept, now)
            for one, (earlier, kept) in zip(self.pipeline, self.parts)
        )

    def view(self, one, earlier, kept, now):
        if one[0] == "every":
            return len(earlier) % one[1]
        events = earlier if one[0] == "fresh" else kept
        many = one[1] if one[0] == "limit" else 1
        return tuple(now - time for time in events[-many:] if now - time <= one[-1])


def search(first, second, wanted):
    """The first of the shortest logs with a wanted pair of decisions on its last event.

    This tries log after log, all logs of a length before the longer ones, and goes on only
    from the first log for each pair of outlooks. Gaps of 10 have the effect of all larger ones.
    """
    seen = set()
    layer = [((), Run(first), Run(second))]
    while layer:
        following = []
        for log, left, right in layer:
            for gap in range(1, 11) if log else [0]:
                now = log[-1] + gap if log else 0
                (one, one_keeps), (other, other_keeps) = left.after(now), right.after(now)
                if (one_keeps, other_keeps) in wanted:
                    return log + (now,)
                outlook = (one.outlook(now), other.outlook(now))
                if outlook not in seen:
                    seen.add(outlook)
                    following.append((log + (now,), one, other))
        layer = following
    return None


def searched_difference(first, second):
    return search(first, second, [(True, False), (False, True)])


def searched_counterexample(first, second):
    return search(first, second, [(False, True)])


def outlooks(pipeline, widest):
    """All outlooks behind logs with gaps up to `widest`, found by histories.

    For each there is a list: for each next event its gap, the outlook behind it, and
    whether it is kept.
    """
    first = Run(pipeline)
    moves = {first.outlook(0): None}
    open_runs = [(first, 0)]
    while open_runs:
        run, now = open_runs.pop()
        row = []
        for gap in range(1, widest + 1):
            after, kept = run.after(now + gap)
            outlook = after.outlook(now + gap)
            row.append((gap, outlook, kept))
            if outlook not in moves:
                moves[outlook] = None
                open_runs.append((after, now + gap))
        moves[run.outlook(now)] = row
    return moves


def behind_kept(moves):
    return [after for row in moves.values() for _, after, kept in row if kept]


def smallest_gap(pipeline):
    """The nearest next kept event, searched behind all kept events in the order of time."""
    moves = outlooks(pipeline, 10)
    queue = [(0, at, outlook) for at, outlook in enumerate(behind_kept(moves))]
    heapify(queue)
    number = len(queue)
    done = set()
    best = None
    while queue:
        time, _, outlook = heappop(queue)
        if outlook in done:
            continue
        done.add(outlook)
        for gap, after, kept in moves[outlook]:
            if kept and (best is None or time + gap < best):
                best = time + gap
            if not kept:
                number += 1
                heappush(queue, (time + gap, number, after))
    return best


class Endless(Exception):
    pass


def largest_gap(pipeline, limit):
    """The farthest next kept event, searched through all ways of dropped events."""
    moves = outlooks(pipeline, limit)
    useful = {at for at, row in moves.items() if any(kept for _, _, kept in row)}
    many = 0
    while many < len(useful):
        many = len(useful)
        useful |= {at for at, row in moves.items() if any(after in useful for _, after, _ in row)}
    busy = set()
    known = {}

    def farthest(outlook):
        if outlook in busy:
            raise Endless
        if outlook not in known:
            busy.add(outlook)
            known[outlook] = max(
                gap if kept else gap + farthest(after)
                for gap, after, kept in moves[outlook] if kept or after in useful
            )
            busy.discard(outlook)
        return known[outlook]

    try:
        return max([farthest(outlook) for outlook in behind_kept(moves) if outlook in useful] + [0])
    except Endless:
        return None


def most_in_window(pipeline, width):
    """The most kept events in a window that begins with a kept one, tried for all of them."""
    moves = outlooks(pipeline, 10)
    known = {}

    def most(outlook, room):
        if (outlook, room) not in known:
            known[(outlook, room)] = max(
                [kept + most(after, room - gap) for gap, after, kept in moves[outlook] if gap <= room],
                default=0,
            )
        return known[(outlook, room)]

    return max([1 + most(outlook, width - 1) for outlook in behind_kept(moves)], default=0)


def regular(pipeline, period, many):
    """Whether each of the first events of the regular log is kept."""
    log = tuple(at * period for at in range(many))
    kept = set(keep(pipeline, log))
    return [time in kept for time in log]


def rhythm(kept):
    """The rhythm that the first decisions show: each is tried that fits into a third of them."""
    third = len(kept) // 3
    for length in range(1, third):
        unlike = [at for at in range(len(kept) - length) if kept[at] != kept[at + length]]
        begin = unlike[-1] + 1 if unlike else 0
        if begin < third:
            return begin, length, sum(kept[begin:begin + length])
    return None


def sources(pipeline, times, last, fixed=None):
    """How many logs up to `last` leave exactly `times`, and the first of the shortest of them.

    `fixed` tells for some times whether there must be an event. Histories with the same
    outlook are taken together.
    """
    fixed = fixed or {}
    groups = [(Run(pipeline), 1, (0, ()))]
    for time in range(last + 1):
        found = {}
        for run, many, (events, log) in groups:
            after, kept = run.after(time)
            choices = []
            if time not in times and not fixed.get(time, False):
                choices.append((run, (events, log)))
            if kept == (time in times) and fixed.get(time, True):
                choices.append((after, (events + 1, log + (time,))))
            for one, best in choices:
                outlook = one.outlook(time)
                _, others, other = found.get(outlook, (one, 0, best))
                found[outlook] = (one, others + many, min(best, other))
        groups = list(found.values())
    logs = [best for _, _, best in groups]
    return sum(many for _, many, _ in groups), min(logs)[1] if logs else None
