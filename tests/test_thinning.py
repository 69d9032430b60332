"""Promises 11 to 14: pipelines applied to logs."""

import random
import unittest
from itertools import product

from tests import plain
from thinlog.thinning import decisions, influential, keep, stages

EXAMPLE = (("spaced", 3), ("every", 2, 0))
EXAMPLE_LOG = (0, 2, 3, 7, 8)


class ThinningCase(unittest.TestCase):

    def check(self, pipeline, log):
        told = repr((pipeline, log))
        self.assertEqual(decisions(pipeline, log), plain.decisions(pipeline, log), told)
        self.assertEqual(keep(pipeline, log), plain.keep(pipeline, log), told)
        self.assertEqual(stages(pipeline, log), plain.stages(pipeline, log), told)
        self.assertEqual(influential(pipeline, log), plain.influential(pipeline, log), told)


class ExampleTest(unittest.TestCase):

    def test_decisions(self):
        self.assertEqual(decisions(EXAMPLE, EXAMPLE_LOG), [None, 0, 1, None, 0])

    def test_keep(self):
        self.assertEqual(keep(EXAMPLE, EXAMPLE_LOG), (0, 7))

    def test_stages(self):
        self.assertEqual(stages(EXAMPLE, EXAMPLE_LOG), [(0, 3, 7), (0, 7)])

    def test_influential(self):
        self.assertEqual(influential((("fresh", 2),), (0, 2, 4, 9)), (0, 1))


class KindTest(unittest.TestCase):
    """Each kind of filter, with answers worked out by hand."""

    def test_spaced(self):
        log = (4, 5, 6, 7, 8, 12, 13, 15)
        self.assertEqual(keep((("spaced", 1),), log), log)
        self.assertEqual(keep((("spaced", 2),), log), (4, 6, 8, 12, 15))
        self.assertEqual(keep((("spaced", 3),), log), (4, 7, 12, 15))
        self.assertEqual(keep((("spaced", 8),), log), (4, 12))
        self.assertEqual(keep((("spaced", 8),), (0, 7, 8, 15, 16)), (0, 8, 16))

    def test_fresh(self):
        self.assertEqual(keep((("fresh", 1),), (0, 1, 2, 4, 5, 7)), (0, 4, 7))
        self.assertEqual(keep((("fresh", 3),), (0, 3, 7, 9, 12, 16)), (0, 7, 16))
        self.assertEqual(keep((("fresh", 8),), (1, 9, 17, 26, 34, 43)), (1, 26, 43))

    def test_every(self):
        log = (3, 4, 9, 10, 11, 30, 31, 32, 50)
        self.assertEqual(keep((("every", 2, 0),), log), (3, 9, 11, 31, 50))
        self.assertEqual(keep((("every", 2, 1),), log), (4, 10, 30, 32))
        self.assertEqual(keep((("every", 3, 2),), log), (9, 30, 50))
        self.assertEqual(keep((("every", 4, 3),), log), (10, 32))

    def test_limit(self):
        log = tuple(range(12))
        self.assertEqual(keep((("limit", 1, 1),), log), log)
        self.assertEqual(keep((("limit", 3, 3),), log), log)
        self.assertEqual(keep((("limit", 1, 6),), log), (0, 6))
        self.assertEqual(keep((("limit", 2, 5),), log), (0, 1, 5, 6, 10, 11))
        self.assertEqual(keep((("limit", 3, 6),), log), (0, 1, 2, 6, 7, 8))
        self.assertEqual(keep((("limit", 2, 4),), (0, 3, 4, 5, 6, 7)), (0, 3, 4, 7))

    def test_order_of_filters(self):
        log = (0, 2, 4, 6, 8)
        self.assertEqual(keep((("spaced", 4), ("fresh", 3)), log), (0, 4, 8))
        self.assertEqual(keep((("fresh", 3), ("spaced", 4)), log), (0,))

    def test_later_filters_read_only_what_is_kept(self):
        pipeline = (("every", 2, 1), ("fresh", 3))
        self.assertEqual(decisions(pipeline, (0, 1, 2, 3, 6, 7, 8)), [0, None, 0, 1, 0, None, 0])

    def test_each_filter_drops(self):
        pipeline = (("fresh", 1), ("spaced", 4), ("limit", 1, 6), ("every", 2, 0))
        log = (0, 1, 3, 5, 7, 9, 11, 13, 16)
        self.assertEqual(decisions(pipeline, log), [None, 0, 1, 2, 1, 3, 1, 2, 1])
        self.assertEqual(stages(pipeline, log), [
            (0, 3, 5, 7, 9, 11, 13, 16), (0, 5, 9, 13), (0, 9), (0,)])


class ComparedTest(ThinningCase):
    """The functions compared with the definitions."""

    def test_each_filter_on_all_short_logs(self):
        logs = plain.logs(6)
        for one in plain.FILTERS:
            for log in logs:
                self.check((one,), log)

    def test_each_filter_on_a_long_log(self):
        source = random.Random(11)
        for one in plain.FILTERS:
            self.check((one,), plain.random_log(source, 40))
            self.check((one,), tuple(range(30)))

    def test_small_pipelines(self):
        logs = plain.logs(4)
        for pipeline in plain.SMALL_PIPELINES:
            for log in logs:
                self.check(pipeline, log)

    def test_random_pipelines(self):
        source = random.Random(12)
        for _ in range(1500):
            self.check(plain.random_pipeline(source), plain.random_log(source, 24))

    def test_logs_of_200_events(self):
        source = random.Random(13)
        for _ in range(2):
            times = [0]
            while len(times) < 200:
                times.append(times[-1] + source.randint(1, 9))
            self.check(plain.random_pipeline(source), tuple(times))

    def test_last_times(self):
        log = (0, 10 ** 9 - 9, 10 ** 9 - 3, 10 ** 9)
        for pipeline in plain.SMALL_PIPELINES:
            self.check(pipeline, log)


class EdgeTest(ThinningCase):

    def test_empty_pipeline(self):
        for log in ((), (0,), (3, 4, 9), tuple(range(200))):
            self.assertEqual(decisions((), log), [None] * len(log))
            self.assertEqual(keep((), log), log)
            self.assertEqual(stages((), log), [])
            self.assertEqual(influential((), log), ())

    def test_empty_log(self):
        for pipeline in plain.SMALL_PIPELINES:
            self.assertEqual(decisions(pipeline, ()), [])
            self.assertEqual(keep(pipeline, ()), ())
            self.assertEqual(stages(pipeline, ()), [()] * len(pipeline))
            self.assertEqual(influential(pipeline, ()), ())

    def test_one_event(self):
        for pipeline, time in product(plain.SMALL_PIPELINES, (0, 7, 10 ** 9)):
            self.check(pipeline, (time,))
            self.assertEqual(influential(pipeline, (time,)), ())

    def test_influence_of_events_that_are_dropped(self):
        self.assertEqual(influential((("fresh", 2),), (0, 2, 5)), (0,))
        self.assertEqual(influential((("every", 2, 1),), (0, 1, 2)), (0, 1))

    def test_influence_that_comes_late(self):
        # The removed event delays each turn of the second filter, which shows at the end.
        pipeline = (("every", 2, 0), ("every", 4, 3))
        self.assertEqual(influential(pipeline, (0, 1, 2, 3, 4, 5, 6)), (0, 1, 2, 3, 4, 5))
        self.assertEqual(influential(pipeline, (0, 1, 2, 3, 4, 5)), ())

    def test_influence_needs_another_event(self):
        # The removal of event 0 changes which filter drops event 1, but not that it is dropped.
        pipeline = (("spaced", 2), ("every", 2, 1))
        self.assertEqual(decisions(pipeline, (0, 1)), [1, 0])
        self.assertEqual(influential(pipeline, (0, 1)), ())

    def test_beyond_the_bounds(self):
        log = tuple(range(-50, 250, 2)) + (10 ** 9 + 1, 10 ** 10)
        for pipeline in (
            (("spaced", 9),), (("fresh", 12),), (("every", 5, 4),), (("every", 2, 2),),
            (("every", 1, 0),), (("limit", 4, 7),), (("limit", 0, 3),), (("limit", 2, 0),),
            (("spaced", 0),), (("fresh", 0),), (("spaced", 8), ("fresh", 8)),
            (("spaced", 2), ("every", 2, 0), ("fresh", 1), ("limit", 3, 6), ("every", 2, 1)),
        ):
            self.check(pipeline, log)
        decisions((("every", 0, 0),), log)


class ResultTest(unittest.TestCase):

    def test_kinds_of_results(self):
        for log in ((), EXAMPLE_LOG):
            self.assertIs(type(decisions(EXAMPLE, log)), list)
            self.assertIs(type(keep(EXAMPLE, log)), tuple)
            self.assertIs(type(influential(EXAMPLE, log)), tuple)
            self.assertIs(type(stages(EXAMPLE, log)), list)
            for events in stages(EXAMPLE, log):
                self.assertIs(type(events), tuple)

    def test_returned_lists_are_new(self):
        for function in (decisions, stages):
            for pipeline, log in ((EXAMPLE, EXAMPLE_LOG), ((), ()), ((), (1, 2))):
                found = function(pipeline, log)
                before = list(found)
                found.append("mine")
                found.reverse()
                again = function(pipeline, log)
                self.assertIsNot(found, again)
                self.assertEqual(again, before)

    def test_arguments_are_not_modified(self):
        pipeline = (("spaced", 3), ("every", 2, 0))
        log = (0, 2, 3, 7, 8)
        for function in (decisions, keep, stages, influential):
            self.assertEqual(function(pipeline, log), function(pipeline, log))
            self.assertEqual(pipeline, (("spaced", 3), ("every", 2, 0)))
            self.assertEqual(log, (0, 2, 3, 7, 8))

    def test_other_calls_have_no_effect(self):
        before = [function(EXAMPLE, EXAMPLE_LOG) for function in (decisions, keep, stages)]
        for function in (decisions, keep, stages, influential):
            function((("limit", 3, 6), ("fresh", 2)), tuple(range(50)))
        after = [function(EXAMPLE, EXAMPLE_LOG) for function in (decisions, keep, stages)]
        self.assertEqual(before, after)


if __name__ == "__main__":
    unittest.main()
