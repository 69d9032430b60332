"""Simpler pipelines with the same effect."""

from itertools import combinations

from thinlog.compare import equal
from thinlog.filters import all_filters, span


def redundant_filters(pipeline):
    """Return the list of the indices of the filters that can be left out, one at a time."""
    return [at for at in range(len(pipeline)) if equal(pipeline[:at] + pipeline[at + 1:], pipeline)]


def commute(one, other):
    """Tell whether the order of the two filters does not matter."""
    return equal((one, other), (other, one))


def shortest_part(pipeline):
    """Return the indices of the fewest filters that have the effect of the whole pipeline."""
    for many in range(len(pipeline)):
        for part in combinations(range(len(pipeline)), many):
            if equal(tuple([pipeline[at] for at in part]), pipeline):
                return part
    return tuple(range(len(pipeline)))


def single_filter(pipeline):
    """Return the first filter that has the effect of the whole pipeline, or None."""
    for one in all_filters():
        if equal((one,), pipeline):
            return one
    return None


def normal_form(pipeline):
    """Return the filters of larger span than all before them, of "spaced" and "fresh" ones."""
    found = []
    widest = 0
    for one in pipeline:
        if span(one) > widest:
            widest = span(one)
            found.append(one)
    return tuple(found)
