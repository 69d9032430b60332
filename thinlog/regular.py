"""What a pipeline keeps of a regular log, which has the times 0, period, 2 * period and so on."""

from thinlog.machine import start, step


def rhythm(pipeline, period):
    """Return from which event on the decisions repeat, after how many, with how many kept."""
    head, cycle = decided(pipeline, period)
    return len(head), len(cycle), cycle.count(True)


def kept_before(pipeline, period, number):
    """Return how many of the first `number` events are kept."""
    head, cycle = decided(pipeline, period)
    if number <= len(head):
        return head[:max(number, 0)].count(True)
    rounds, rest = divmod(number - len(head), len(cycle))
    return head.count(True) + rounds * cycle.count(True) + cycle[:rest].count(True)


def kept_index(pipeline, period, rank):
    """Return the number of the kept event with `rank - 1` kept ones before it, or None."""
    head, cycle = decided(pipeline, period)
    once = kept_places(head)
    again = kept_places(cycle)
    if rank < 1:
        return None
    if rank <= len(once):
        return once[rank - 1]
    if len(again) == 0:
        return None
    rounds, at = divmod(rank - 1 - len(once), len(again))
    return len(head) + rounds * len(cycle) + again[at]


def decided(pipeline, period):
    """Return whether the events are kept: a list for those before the decisions repeat, and
    one for those that repeat from there on without end, both as short as possible.
    """
    # A period below 1 makes no log; taken as 1, it makes no endless run either.
    gap = max(period, 1)
    state = start(pipeline)
    numbers = {}
    kept = []
    while state not in numbers:
        numbers[state] = len(kept)
        state, dropper = step(pipeline, state, gap)
        kept.append(dropper is None)
    begin = numbers[state]
    length = shortest_round(kept[begin:])
    # Decisions can repeat earlier than states do.
    while begin > 0 and kept[begin - 1] == kept[begin - 1 + length]:
        begin -= 1
    return kept[:begin], kept[begin:begin + length]


def shortest_round(kept):
    """Return the length of the shortest list that, repeated, gives this one."""
    for length in range(1, len(kept)):
        if kept == kept[:length] * (len(kept) // length):
            return length
    return len(kept)


def kept_places(kept):
    """Return the indices of the events that are kept."""
    return [at for at, keeps in enumerate(kept) if keeps]
