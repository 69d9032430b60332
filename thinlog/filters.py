"""What filters, pipelines and logs are, and what follows from their parameters."""

MOST_FILTERS = 4
MOST_WEIGHT = 60
MOST_EVENTS = 200
LAST_TIME = 1000000000

# The largest value of any parameter, which is also the largest one of "spaced" and "fresh".
LARGEST_PARAMETER = 8

# The smallest and the largest value of each parameter.
BOUNDS = {
    "spaced": ((1, 8),),
    "fresh": ((1, 8),),
    "every": ((2, 4), (0, 3)),
    "limit": ((1, 3), (1, 6)),
}


def is_filter(value):
    """Tell whether the value is a filter."""
    if not isinstance(value, tuple) or len(value) == 0:
        return False
    name = value[0]
    # A list cannot be looked up in a dict, so the name must be known to be a string.
    if not isinstance(name, str) or name not in BOUNDS:
        return False
    bounds = BOUNDS[name]
    if len(value) != len(bounds) + 1:
        return False
    if not all([is_between(x, low, high) for x, (low, high) in zip(value[1:], bounds)]):
        return False
    return name != "every" or value[2] < value[1]


def is_pipeline(value):
    """Tell whether the value is a pipeline."""
    if not isinstance(value, tuple) or len(value) > MOST_FILTERS:
        return False
    if not all([is_filter(one) for one in value]):
        return False
    total = 1
    for one in value:
        total = total * weight(one)
    return total <= MOST_WEIGHT


def is_log(value):
    """Tell whether the value is a log."""
    if not isinstance(value, tuple) or len(value) > MOST_EVENTS:
        return False
    if not all([is_between(time, 0, LAST_TIME) for time in value]):
        return False
    return all([value[at] < value[at + 1] for at in range(len(value) - 1)])


def all_filters():
    """Return the list of all filters in ascending order."""
    numbers = range(LARGEST_PARAMETER + 1)
    short = [(name, n) for name in BOUNDS for n in numbers]
    long = [one + (k,) for one in short for k in numbers]
    return sorted([one for one in short + long if is_filter(one)])


def is_between(value, low, high):
    """Tell whether the value is an integer, no boolean, from low to high."""
    # Python counts True and False as integers, the document does not.
    if not isinstance(value, int) or isinstance(value, bool):
        return False
    return low <= value <= high


def weight(one):
    """Return the weight of a filter."""
    if one[0] == "fresh":
        return one[1] + 1
    if one[0] == "limit":
        return one[1] * one[2]
    return one[1]


def span(one):
    """Return the largest gap after an event at which a "spaced" or "fresh" filter drops the next."""
    return hold(one) - 1


def hold(one):
    """Return how much later an event must be, to be out of the reach of one at this filter."""
    if one[0] == "every":
        return 0
    if one[0] == "fresh":
        return one[1] + 1
    return one[-1]


def reach(pipeline):
    """Return the reach of a pipeline: larger gaps act as this one."""
    return max([1] + [hold(one) for one in pipeline])
