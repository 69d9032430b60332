"""Promises 30 to 34: unknown parameters and unknown logs."""

import random
import unittest
from itertools import combinations
from math import comb

from tests import plain
from thinlog.filters import is_pipeline
from thinlog.unknown import (
    count_sources, fewest_events, possible_last, possible_values, source_events,
)

SIX = (0, 12, 24, 36, 48, 60)


class ExampleTest(unittest.TestCase):

    def test_possible_last(self):
        self.assertEqual(possible_last((), "spaced", (0, 2, 3, 7, 8), (0, 3, 7)), (3, 3))

    def test_possible_values(self):
        pipeline = (("spaced", 1), ("fresh", 2))
        self.assertEqual(possible_values(pipeline, 0, (0, 1, 2, 3, 4), (0,)), [1, 2, 5, 6, 7, 8])

    def test_fewest_events(self):
        self.assertEqual(fewest_events((("every", 2, 1),), (4,)), (0, 4))
        self.assertIs(fewest_events((("spaced", 5),), (0, 3)) is None, True)

    def test_count_sources(self):
        self.assertEqual(count_sources((("spaced", 2),), (0, 2), 3), 4)

    def test_source_events(self):
        self.assertEqual(source_events((("spaced", 2),), (0, 3), 3), ((0, 3), (0, 1, 3)))


class ParameterHandTest(unittest.TestCase):

    def test_last_of_empty_pipeline(self):
        log = (0, 2, 3, 7, 8)
        self.assertEqual(possible_last((), "spaced", log, log), (1, 1))
        self.assertEqual(possible_last((), "spaced", log, (0, 2, 7)), (2, 2))
        self.assertEqual(possible_last((), "spaced", log, (0, 7)), (4, 7))
        self.assertEqual(possible_last((), "spaced", log, (0, 8)), (8, 8))
        self.assertEqual(possible_last((), "fresh", log, (0, 2, 7)), (1, 1))
        self.assertEqual(possible_last((), "fresh", log, (0, 7)), (2, 3))
        self.assertEqual(possible_last((), "fresh", log, (0,)), (4, 8))

    def test_no_last(self):
        log = (0, 2, 3, 7, 8)
        for kept in ((), (2,), (0, 3), (0, 2, 3), log):
            self.assertIsNone(possible_last((), "fresh", log, kept))
        for kept in ((), (2,), (0, 3), (0, 2, 3), (0, 2, 8)):
            self.assertIsNone(possible_last((), "spaced", log, kept))

    def test_empty_log(self):
        for name in ("spaced", "fresh"):
            self.assertEqual(possible_last((), name, (), ()), (1, 8))
            self.assertEqual(possible_last((("every", 2, 1),), name, (5,), ()), (1, 8))
            self.assertEqual(possible_last((), name, (5,), (5,)), (1, 8))
            self.assertIsNone(possible_last((), name, (5,), ()))
            self.assertEqual(possible_values(((name, 3),), 0, (), ()), [1, 2, 3, 4, 5, 6, 7, 8])
            self.assertEqual(possible_values(((name, 3),), 0, (5,), ()), [])

    def test_no_interval(self):
        pipeline = (("spaced", 1), ("fresh", 2))
        self.assertEqual(possible_values(pipeline, 0, (0, 1, 2, 3, 4), (0, 3)), [3])
        self.assertEqual(possible_values(pipeline, 0, (0, 1, 2, 3, 4), (0, 4)), [4])
        self.assertEqual(possible_values(pipeline, 0, (0, 1, 2, 3, 4), ()), [])

    def test_position(self):
        pipeline = (("fresh", 1), ("every", 2, 0), ("spaced", 1))
        log = (0, 2, 4, 6, 8, 10, 12)
        self.assertEqual(possible_values(pipeline, 0, log, (0, 4, 8, 12)), [1])
        self.assertEqual(possible_values(pipeline, 0, log, (0,)), [2, 3, 4, 5, 6, 7, 8])
        self.assertEqual(possible_values(pipeline, 2, log, (0, 4, 8, 12)), [1, 2, 3, 4])
        self.assertEqual(possible_values(pipeline, 2, log, (0, 8)), [5, 6, 7, 8])

    def test_beyond_the_bounds_of_pipelines(self):
        heavy = (("every", 4, 0), ("every", 3, 0), ("every", 2, 0), ("every", 2, 0))
        log = tuple(range(0, 200))
        self.assertEqual(possible_last(heavy, "spaced", log, (0, 48, 96, 144, 192)), (1, 8))
        self.assertEqual(possible_last(heavy, "fresh", log, (0, 48, 96, 144, 192)), (1, 8))
        self.assertFalse(is_pipeline(heavy + (("spaced", 1),)))
        near = (("spaced", 7), ("fresh", 7))
        log = tuple(range(0, 10 ** 9, 10 ** 9 // 199))
        self.assertEqual(len(log), 200)
        self.assertEqual(possible_last(near, "fresh", log, log), (1, 8))
        self.assertEqual(possible_values(near, 0, log, log), [1, 2, 3, 4, 5, 6, 7, 8])
        self.assertFalse(is_pipeline((("spaced", 8), ("fresh", 7))))


class ParameterSearchTest(unittest.TestCase):
    """All parameters from 1 to 8, each applied by the document's words."""

    def check_last(self, pipeline, name, log, kept):
        fitting = [d for d in range(1, 9) if plain.keep(pipeline + ((name, d),), log) == kept]
        expected = (min(fitting), max(fitting)) if fitting else None
        told = repr((pipeline, name, log, kept))
        self.assertEqual(possible_last(pipeline, name, log, kept), expected, told)
        if fitting:
            self.assertEqual(fitting, list(range(fitting[0], fitting[-1] + 1)), told)

    def check_values(self, pipeline, index, log, kept):
        name = pipeline[index][0]
        changed = [pipeline[:index] + ((name, d),) + pipeline[index + 1:] for d in range(1, 9)]
        fitting = [d for d, one in enumerate(changed, start=1) if plain.keep(one, log) == kept]
        told = repr((pipeline, index, log, kept))
        self.assertEqual(possible_values(pipeline, index, log, kept), fitting, told)

    def kept_sets(self, source, pipeline, index, log):
        """What is kept with each parameter, and some other events."""
        name = pipeline[index][0]
        for d in range(1, 9):
            yield plain.keep(pipeline[:index] + ((name, d),) + pipeline[index + 1:], log)
        for chance in (0.2, 0.8):
            yield tuple(time for time in log if source.random() < chance)
        yield ()
        yield log

    def test_last(self):
        source = random.Random(30)
        for _ in range(150):
            pipeline = plain.random_pipeline(source)
            log = plain.random_log(source, 30)
            for name in ("spaced", "fresh"):
                longer = pipeline + ((name, 1),)
                for kept in self.kept_sets(source, longer, len(pipeline), log):
                    self.check_last(pipeline, name, log, kept)

    def test_values(self):
        source = random.Random(31)
        for _ in range(300):
            pipeline = plain.random_pipeline(source)
            log = plain.random_log(source, 30)
            for index, one in enumerate(pipeline):
                if one[0] in ("spaced", "fresh"):
                    for kept in self.kept_sets(source, pipeline, index, log):
                        self.check_values(pipeline, index, log, kept)

    def test_all_small_logs(self):
        for log in plain.logs(6):
            for kept in [one for many in range(len(log) + 1) for one in combinations(log, many)]:
                self.check_last((("spaced", 2),), "fresh", log, kept)
                self.check_values((("fresh", 1), ("spaced", 2)), 0, log, kept)

    def test_longest_logs(self):
        source = random.Random(32)
        for pipeline in plain.HEAVY[:12]:
            times = [0]
            while len(times) < 200:
                times.append(times[-1] + source.choice([1, 2, 3, 5, 8, 9, 12]))
            log = tuple(times)
            for name in ("spaced", "fresh"):
                kept = plain.keep(pipeline + ((name, 5),), log)
                self.check_last(pipeline, name, log, kept)
                self.check_values(pipeline + ((name, 5),), len(pipeline), log, kept)


class SourceHandTest(unittest.TestCase):

    def test_empty_pipeline(self):
        for times in ((0,), (60,), (3, 4), SIX):
            self.assertEqual(fewest_events((), times), times)
            self.assertEqual(count_sources((), times, 60), 1)
            self.assertEqual(source_events((), times, 60), (times, times))
        self.assertEqual(count_sources((), (), 60), 1)
        self.assertEqual(source_events((), (), 60), ((), ()))

    def test_no_given_times(self):
        # Whatever keeps the first event has the empty log as its only source.
        for one in (("spaced", 8), ("fresh", 8), ("limit", 3, 6), ("every", 4, 0)):
            self.assertEqual(count_sources((one,), (), 60), 1)
            self.assertEqual(source_events((one,), (), 60), ((), ()))
        many = 1 + 61 + comb(61, 2) + comb(61, 3)
        self.assertEqual(count_sources((("every", 4, 3),), (), 60), many)
        self.assertEqual(source_events((("every", 4, 3),), (), 60), ((), tuple(range(61))))
        self.assertEqual(count_sources((("every", 2, 1),), (), 0), 2)
        self.assertEqual(source_events((("every", 2, 1),), (), 0), ((), (0,)))

    def test_counting_filters_at_the_last_time(self):
        pipeline = (("every", 3, 1),)
        # One event before the first given one, two between each two, at most one behind.
        many = 10 * comb(29, 2) * (1 + 20 + comb(20, 2))
        self.assertEqual(count_sources(pipeline, (10, 40), 60), many)
        self.assertEqual(fewest_events(pipeline, (10, 40)), (0, 10, 11, 12, 40))
        always, sometimes = source_events(pipeline, (10, 40), 60)
        self.assertEqual(always, (10, 40))
        self.assertEqual(sometimes, tuple(range(61)))
        self.assertEqual(count_sources(pipeline, (10, 12), 60), 0)
        self.assertIsNone(source_events(pipeline, (10, 12), 60))
        self.assertIsNone(fewest_events(pipeline, (10, 12)))
        self.assertEqual(source_events(pipeline, (1, 4), 5), ((0, 1, 2, 3, 4), (0, 1, 2, 3, 4, 5)))

    def test_six_times(self):
        pipeline = (("every", 4, 3),)
        times = (3, 10, 20, 35, 50, 60)
        expected = comb(3, 3) * comb(6, 3) * comb(9, 3) * comb(14, 3) * comb(14, 3) * comb(9, 3)
        self.assertEqual(count_sources(pipeline, times, 60), expected)
        self.assertEqual(fewest_events(pipeline, times), (
            0, 1, 2, 3, 4, 5, 6, 10, 11, 12, 13, 20, 21, 22, 23, 35, 36, 37, 38, 50, 51, 52, 53, 60))
        always, sometimes = source_events(pipeline, times, 60)
        self.assertEqual(always, (0, 1, 2, 3, 10, 20, 35, 50, 60))
        self.assertEqual(sometimes, tuple(range(61)))
        # Any of the seven times behind each given one but the last can have a dropped event.
        self.assertEqual(fewest_events((("spaced", 8),), SIX), SIX)
        self.assertEqual(count_sources((("spaced", 8),), SIX, 60), (2 ** 7) ** 5)
        always, sometimes = source_events((("spaced", 8),), SIX, 60)
        self.assertEqual(always, SIX)
        self.assertEqual(sometimes, tuple(sorted(
            [60] + [first + more for first in SIX[:5] for more in range(8)])))

    def test_fresh(self):
        pipeline = (("fresh", 2),)
        self.assertEqual(fewest_events(pipeline, (0,)), (0,))
        self.assertEqual(fewest_events(pipeline, (5,)), (5,))
        self.assertEqual(fewest_events(pipeline, (5, 8)), (5, 8))
        self.assertIsNone(fewest_events(pipeline, (5, 7)))
        # No event at 4 or 5; any of 1, 2 and 3, but not 3 alone, which would be kept.
        self.assertEqual(count_sources(pipeline, (0, 6), 6), 7)
        self.assertEqual(source_events(pipeline, (0, 6), 6), ((0, 6), (0, 1, 2, 3, 6)))

    def test_first_of_the_shortest_logs(self):
        # Any one event before 4 makes that the second one.
        self.assertEqual(fewest_events((("every", 2, 1),), (4,)), (0, 4))
        self.assertEqual(fewest_events((("every", 2, 1),), (1, 4)), (0, 1, 2, 4))
        self.assertIsNone(fewest_events((("every", 2, 1),), (0,)))
        self.assertIsNone(fewest_events((("every", 2, 1),), (1, 2)))
        self.assertEqual(fewest_events((("every", 4, 3),), (60,)), (0, 1, 2, 60))
        # An event counts only if the spaced filter keeps it.
        self.assertEqual(fewest_events((("spaced", 7), ("every", 2, 1)), (60,)), (0, 60))
        self.assertEqual(fewest_events((("spaced", 7), ("every", 3, 2)), (60,)), (0, 7, 60))

    def test_a_late_event_can_be_needed(self):
        # Between the given ones two events must reach the last filter, 5 apart at least.
        pipeline = (("spaced", 5), ("every", 3, 0))
        self.assertEqual(fewest_events(pipeline, (0, 15)), (0, 5, 10, 15))
        self.assertIsNone(fewest_events(pipeline, (0, 14)))
        self.assertEqual(fewest_events(pipeline, (0, 17)), (0, 5, 10, 17))

    def test_last_time(self):
        self.assertEqual(count_sources((("spaced", 2),), (0,), 0), 1)
        self.assertEqual(count_sources((("spaced", 2),), (0,), 60), 2)
        self.assertEqual(count_sources((("spaced", 2),), (60,), 60), 1)
        self.assertEqual(count_sources((("every", 2, 0),), (60,), 60), 1)
        self.assertEqual(count_sources((("every", 2, 1),), (60,), 60), 60)
        self.assertEqual(source_events((("every", 2, 1),), (60,), 60), ((60,), tuple(range(61))))


class AllLogsTest(unittest.TestCase):
    """Comparisons with all logs up to a small last time."""

    def check(self, pipeline, last):
        by_kept = {}
        for log in plain.logs(last):
            by_kept.setdefault(plain.keep(pipeline, log), []).append(log)
        for times in [one for many in range(7) for one in combinations(range(last + 1), many)]:
            told = repr((pipeline, times, last))
            logs = by_kept.get(times, [])
            self.assertEqual(count_sources(pipeline, times, last), len(logs), told)
            self.assertEqual(source_events(pipeline, times, last), self.events(logs), told)
            if times:
                early = [log for log in logs if log[-1] <= times[-1]]
                expected = min(early, key=lambda log: (len(log), log)) if early else None
                self.assertEqual(fewest_events(pipeline, times), expected, told)
                self.check_guarantee(logs, expected, told)

    def check_guarantee(self, logs, found, told):
        """No log with fewer events leaves the given ones, wherever it ends."""
        if logs:
            self.assertEqual(min(len(log) for log in logs), len(found), told)
        else:
            self.assertIsNone(found, told)

    def events(self, logs):
        if not logs:
            return None
        times = sorted({time for log in logs for time in log})
        return tuple(time for time in times if all(time in log for log in logs)), tuple(times)

    def test_single_filters(self):
        for one in plain.FILTERS:
            self.check((one,), 6)

    def test_single_filters_up_to_a_later_time(self):
        for one in (("spaced", 8), ("fresh", 8), ("limit", 3, 6), ("every", 3, 1)):
            self.check((one,), 9)

    def test_small_pipelines(self):
        for pipeline in plain.SMALL_PIPELINES[::2]:
            self.check(pipeline, 6)

    def test_heavy_pipelines(self):
        for pipeline in plain.HEAVY:
            self.check(pipeline, 5)

    def test_random_pipelines(self):
        source = random.Random(33)
        for _ in range(40):
            self.check(plain.random_pipeline(source), 6)

    def test_small_last_times(self):
        for pipeline in plain.SMALL_PIPELINES:
            for last in (0, 1, 2, 3):
                self.check(pipeline, last)


class HistorySearchTest(unittest.TestCase):
    """Comparisons with a search through histories, at great last times."""

    def given(self, source, pipeline, last):
        """Some times that a log leaves, if a random one leaves few enough."""
        for _ in range(20):
            chance = source.choice([0.05, 0.1, 0.3, 0.6])
            log = tuple(time for time in range(last + 1) if source.random() < chance)
            kept = plain.keep(pipeline, log)
            if 0 < len(kept) <= 6:
                return kept
        return tuple(sorted(source.sample(range(last + 1), 2)))

    def test_counts_and_shortest_logs(self):
        source = random.Random(34)
        pipelines = plain.HEAVY + [plain.random_pipeline(source) for _ in range(60)]
        found = 0
        for pipeline in pipelines:
            last = source.choice([30, 59, 60])
            for times in (self.given(source, pipeline, last), ()):
                told = repr((pipeline, times, last))
                many, _ = plain.sources(pipeline, times, last)
                self.assertEqual(count_sources(pipeline, times, last), many, told)
                if times:
                    _, best = plain.sources(pipeline, times, times[-1])
                    self.assertEqual(fewest_events(pipeline, times), best, told)
                    found += best is not None
        self.assertGreater(found, 60)

    def test_source_events(self):
        source = random.Random(35)
        pipelines = plain.HEAVY[::4] + [plain.random_pipeline(source) for _ in range(6)]
        for pipeline in pipelines:
            times = self.given(source, pipeline, 60)
            answer = source_events(pipeline, times, 60)
            if plain.sources(pipeline, times, 60)[0] == 0:
                self.assertIsNone(answer)
                continue
            always, sometimes = answer
            for time in range(0, 61, 4):
                without = plain.sources(pipeline, times, 60, {time: False})[0]
                self.assertEqual(time in always, without == 0, repr((pipeline, times, time)))
                with_event = plain.sources(pipeline, times, 60, {time: True})[0]
                self.assertEqual(time in sometimes, with_event > 0, repr((pipeline, times, time)))

    def test_answers_leave_the_given_times(self):
        source = random.Random(36)
        for _ in range(200):
            pipeline = plain.random_pipeline(source)
            times = self.given(source, pipeline, 60)
            log = fewest_events(pipeline, times)
            many = count_sources(pipeline, times, 60)
            self.assertEqual(log is None, many == 0)
            if log is not None:
                self.assertEqual(plain.keep(pipeline, log), times)
                self.assertLessEqual(log[-1], times[-1])
                always, sometimes = source_events(pipeline, times, 60)
                self.assertLessEqual(set(always), set(log))
                self.assertLessEqual(set(log), set(sometimes))
                self.assertLessEqual(set(times), set(always))


class ResultTest(unittest.TestCase):

    def test_kinds_of_results(self):
        self.assertIs(type(possible_last((), "fresh", (0, 2), (0, 2))), tuple)
        self.assertIs(type(possible_values((("fresh", 1),), 0, (0, 2), (0, 2))), list)
        self.assertIs(type(possible_values((("fresh", 1),), 0, (0, 2), (2,))), list)
        self.assertIs(type(fewest_events((("every", 2, 1),), (4,))), tuple)
        self.assertIs(type(count_sources((), (), 0)), int)
        self.assertIs(type(count_sources((("spaced", 3),), (0, 1), 5)), int)
        found = source_events((("spaced", 2),), (0, 3), 3)
        self.assertEqual([type(found), type(found[0]), type(found[1])], [tuple] * 3)

    def test_beyond_the_bounds(self):
        self.assertEqual(fewest_events((), tuple(range(0, 90, 10))), tuple(range(0, 90, 10)))
        self.assertEqual(fewest_events((("every", 2, 1),), (100,)), (0, 100))
        self.assertEqual(fewest_events((), ()), ())
        self.assertIsNone(fewest_events((), (-1,)))
        self.assertIsNone(fewest_events((), (-1, 3)))
        self.assertEqual(count_sources((("every", 2, 1),), (100,), 100), 100)
        self.assertEqual(count_sources((), tuple(range(8)), 80), 1)
        self.assertEqual(count_sources((), (), -1), 1)
        self.assertEqual(source_events((), tuple(range(8)), 80), (tuple(range(8)),) * 2)
        for times, last in (((-1,), 5), ((7,), 5), ((0,), -1), ((3, 6), 5)):
            self.assertEqual(count_sources((), times, last), 0)
            self.assertIsNone(source_events((), times, last))
        log = tuple(range(300))
        self.assertEqual(possible_last((), "spaced", log, log), (1, 1))
        self.assertEqual(possible_values((("spaced", 9),), 0, log, log), [1])


if __name__ == "__main__":
    unittest.main()
