"""Promise 2, over all functions: new lists, the same answers again, and reasonable time."""

import doctest
import os
import time
import unittest

from tests import plain
from thinlog.bounds import largest_gap, most_in_window, smallest_gap
from thinlog.compare import contains, counterexample, equal, first_difference
from thinlog.regular import kept_before, kept_index, rhythm
from thinlog.simplify import (
    commute, normal_form, redundant_filters, shortest_part, single_filter,
)
from thinlog.thinning import decisions, influential, keep, stages
from thinlog.unknown import (
    count_sources, fewest_events, possible_last, possible_values, source_events,
)

README = os.path.join(os.path.dirname(os.path.dirname(os.path.abspath(__file__))), "README.md")

# Seconds for one call, many times as many as it should need.
PATIENCE = 5

# The pipelines with the most states, with as many filters as there can be, and the empty one.
LARGEST = plain.HEAVY + [
    (),
    (("limit", 3, 6), ("limit", 1, 1), ("every", 3, 1), ("spaced", 1)),
    (("limit", 2, 5), ("every", 3, 2), ("every", 2, 0), ("limit", 1, 1)),
    (("limit", 2, 6), ("limit", 1, 1), ("every", 4, 3), ("spaced", 1)),
    (("spaced", 5), ("every", 3, 2), ("every", 2, 1), ("every", 2, 0)),
    (("fresh", 4), ("every", 3, 2), ("spaced", 2), ("fresh", 1)),
    (("spaced", 2), ("fresh", 2), ("spaced", 3), ("fresh", 2)),
]
CLOSE_LOG = tuple(range(200))
WIDE_LOG = tuple(range(10 ** 9 - 199 * 4, 10 ** 9 + 1, 4))
SIX = (0, 12, 24, 36, 48, 60)


def calls_of_one(pipeline):
    """All calls that take one pipeline, with the largest other arguments."""
    for log in (CLOSE_LOG, WIDE_LOG):
        for function in (decisions, keep, stages, influential):
            yield function, (pipeline, log)
        for name in ("spaced", "fresh"):
            yield possible_last, (pipeline, name, log, log[::9])
            yield possible_values, (pipeline + ((name, 8),), len(pipeline), log, log[:1])
            yield possible_values, (((name, 8),) + pipeline, 0, log, log[:1])
    for function in (redundant_filters, shortest_part, single_filter, smallest_gap):
        yield function, (pipeline,)
    for limit in (1, 20):
        yield largest_gap, (pipeline, limit)
    for width in (1, 40):
        yield most_in_window, (pipeline, width)
    for period in (1, 20):
        yield rhythm, (pipeline, period)
        yield kept_before, (pipeline, period, 10 ** 15)
        yield kept_index, (pipeline, period, 10 ** 15)
    for times in (SIX, (60,), (0, 60), tuple(range(55, 61))):
        yield fewest_events, (pipeline, times)
        yield count_sources, (pipeline, times, 60)
        yield source_events, (pipeline, times, 60)
    yield count_sources, (pipeline, (), 60)
    yield source_events, (pipeline, (), 60)


def calls_of_two(first, second):
    for function in (first_difference, equal, counterexample, contains):
        yield function, (first, second)


def all_calls():
    for pipeline in LARGEST:
        yield from calls_of_one(pipeline)
    for first, second in zip(LARGEST, LARGEST[1:] + LARGEST[:1]):
        yield from calls_of_two(first, second)
    for one, other in [(("limit", 2, 5), ("spaced", 6)), (("limit", 3, 5), ("every", 4, 3)),
                       (("spaced", 7), ("fresh", 7)), (("limit", 3, 6), ("limit", 1, 3))]:
        yield commute, (one, other)
    yield normal_form, ((("spaced", 2), ("fresh", 2), ("spaced", 3), ("fresh", 2)),)


class CallsTest(unittest.TestCase):

    def test_reasonable_time(self):
        for function, arguments in all_calls():
            begin = time.perf_counter()
            function(*arguments)
            passed = time.perf_counter() - begin
            self.assertLess(passed, PATIENCE, function.__name__ + repr(arguments)[:200])

    def test_same_answer_again(self):
        calls = list(all_calls())
        before = [function(*arguments) for function, arguments in calls]
        calls.reverse()
        after = [function(*arguments) for function, arguments in calls]
        self.assertEqual(before, after[::-1])

    def test_returned_lists_are_new(self):
        pipeline = (("spaced", 4), ("spaced", 2))
        for function, arguments in [
            (decisions, (pipeline, (0, 1, 2, 5))),
            (stages, (pipeline, (0, 1, 2, 5))),
            (redundant_filters, (pipeline,)),
            (possible_values, (pipeline, 0, (0, 1, 2, 5), (0, 2, 5))),
            (decisions, ((), ())),
            (stages, ((), ())),
            (redundant_filters, ((),)),
            (possible_values, (pipeline, 0, (0,), ())),
        ]:
            answer = function(*arguments)
            self.assertIs(type(answer), list)
            expected = list(answer)
            answer.append("mine")
            again = function(*arguments)
            self.assertIsNot(again, answer)
            self.assertEqual(again, expected)


class ReadmeTest(unittest.TestCase):

    def test_examples(self):
        found = doctest.testfile(README, module_relative=False)
        self.assertEqual(found.failed, 0)
        self.assertGreater(found.attempted, 10)


if __name__ == "__main__":
    unittest.main()
