"""Promises 24 to 26: how close, how far apart and how many the kept events can be."""

import random
import unittest
from itertools import product

from tests import plain
from thinlog.bounds import largest_gap, most_in_window, smallest_gap
from thinlog.thinning import keep

LONGEST = (("every", 4, 3), ("every", 4, 3), ("every", 3, 2))
NOTHING = (("every", 2, 2),)


def gaps(times):
    return [after - before for before, after in zip(times, times[1:])]


def in_window(times, width):
    """The most of these times within so many consecutive integers, counted from each of them."""
    return max([len([one for one in times if first <= one < first + width]) for first in times] + [0])


def sample_pipelines(seed, many):
    source = random.Random(seed)
    return [plain.random_pipeline(source) for _ in range(many)]


class ExampleTest(unittest.TestCase):

    def test_smallest_gap(self):
        self.assertEqual(smallest_gap((("spaced", 3), ("every", 2, 0))), 6)

    def test_largest_gap(self):
        answers = [largest_gap((("spaced", 3),), 2), largest_gap((("fresh", 3),), 3),
                   largest_gap((("fresh", 3),), 4)]
        self.assertEqual(answers, [4, 0, None])

    def test_most_in_window(self):
        self.assertEqual(most_in_window((("limit", 2, 5),), 6), 3)


class HandTest(unittest.TestCase):
    """Answers that were worked out by hand."""

    def test_empty_pipeline(self):
        self.assertEqual(smallest_gap(()), 1)
        for limit in (1, 2, 19, 20):
            self.assertEqual(largest_gap((), limit), limit)
        for width in (1, 2, 39, 40):
            self.assertEqual(most_in_window((), width), width)

    def test_smallest_gap_of_single_filters(self):
        for d in range(1, 9):
            self.assertEqual(smallest_gap((("spaced", d),)), d)
            self.assertEqual(smallest_gap((("fresh", d),)), d + 1)
        for n in range(2, 5):
            for k in range(n):
                self.assertEqual(smallest_gap((("every", n, k),)), n)
        for w in range(1, 7):
            self.assertEqual(smallest_gap((("limit", 1, w),)), w)
            self.assertEqual(smallest_gap((("limit", 2, w),)), 1)
            self.assertEqual(smallest_gap((("limit", 3, w),)), 1)

    def test_smallest_gap_that_comes_late(self):
        # The next kept event but one is 5 later at least, and the one behind that 6 later.
        self.assertEqual(smallest_gap((("limit", 2, 5), ("every", 2, 1))), 5)
        self.assertEqual(smallest_gap((("limit", 2, 5), ("every", 3, 2))), 6)
        self.assertEqual(smallest_gap(LONGEST), 48)
        self.assertEqual(smallest_gap((("spaced", 5), ("every", 4, 0), ("every", 3, 0))), 60)
        self.assertEqual(smallest_gap((("fresh", 8), ("every", 3, 2), ("every", 2, 0))), 54)

    def test_largest_gap_of_single_filters(self):
        for limit in range(1, 21):
            for d in range(1, 9):
                # The last dropped event is d - 1 after the kept one, if the gaps allow it.
                self.assertEqual(largest_gap((("spaced", d),), limit), d - 1 + limit)
                expected = None if limit > d else 0
                self.assertEqual(largest_gap((("fresh", d),), limit), expected)
            for n in range(2, 5):
                self.assertEqual(largest_gap((("every", n, n - 1),), limit), n * limit)

    def test_largest_gap_of_limits(self):
        # Two events are kept 1 apart, and those up to 4 after the first one are dropped.
        self.assertEqual(largest_gap((("limit", 2, 5),), 1), 4)
        self.assertEqual(largest_gap((("limit", 2, 5),), 2), 5)
        self.assertEqual(largest_gap((("limit", 2, 5),), 20), 23)
        self.assertEqual(largest_gap((("limit", 3, 6),), 20), 23)
        self.assertEqual(largest_gap((("limit", 2, 2),), 20), 20)

    def test_largest_gap_at_the_largest_limit(self):
        self.assertEqual(largest_gap(LONGEST, 20), 960)
        self.assertEqual(largest_gap((("spaced", 5), ("every", 4, 0), ("every", 3, 0)), 20), 12 * 24)

    def test_no_two_kept_events(self):
        for d in range(1, 9):
            self.assertEqual(largest_gap((("fresh", d),), d), 0)
            self.assertEqual(largest_gap((("fresh", d), ("every", 2, 0)), d), 0)
            self.assertEqual(largest_gap((("fresh", d), ("every", 2, 1)), d), 0)
        # Events 1 and 3 come 4 apart at most, so that a fresh 4 drops all but the first.
        self.assertEqual(largest_gap((("every", 2, 1), ("fresh", 4)), 2), 0)
        self.assertIsNone(largest_gap((("every", 2, 1), ("fresh", 4)), 3))

    def test_dropped_events_without_end(self):
        # Dropped events without end follow a kept one, but no further kept one can follow them.
        self.assertEqual(largest_gap((("fresh", 2), ("every", 2, 0)), 2), 0)
        # The spaced filter keeps events 2 or 3 apart: a fresh 2 can wait for a 3 at will.
        self.assertIsNone(largest_gap((("spaced", 2), ("fresh", 2)), 2))
        self.assertEqual(largest_gap((("spaced", 2), ("fresh", 1)), 2), 3)

    def test_most_in_window_of_single_filters(self):
        for width in range(1, 41):
            for d in range(1, 9):
                self.assertEqual(most_in_window((("spaced", d),), width), (width + d - 1) // d)
                self.assertEqual(most_in_window((("fresh", d),), width), (width + d) // (d + 1))
            for n in range(2, 5):
                self.assertEqual(most_in_window((("every", n, n - 1),), width), (width + n - 1) // n)

    def test_most_in_window_of_limits(self):
        for n, w, width in product(range(1, 4), range(1, 7), range(1, 41)):
            rounds, rest = divmod(width, w)
            expected = rounds * min(n, w) + min(n, rest)
            self.assertEqual(most_in_window((("limit", n, w),), width), expected)

    def test_windows_inside_a_log(self):
        # A window can begin behind as many dropped events as it takes.
        self.assertEqual(most_in_window((("every", 2, 1),), 1), 1)
        self.assertEqual(most_in_window(LONGEST, 1), 1)
        self.assertEqual(most_in_window(LONGEST, 40), 1)
        self.assertEqual(most_in_window((("every", 2, 1), ("every", 2, 1)), 4), 1)
        self.assertEqual(most_in_window((("every", 2, 1), ("every", 2, 1)), 5), 2)
        # Kept events but one apart are 5 apart at least.
        self.assertEqual(most_in_window((("limit", 2, 5), ("every", 2, 0)), 5), 1)
        self.assertEqual(most_in_window((("limit", 2, 5), ("every", 2, 0)), 6), 2)


class PlainSearchTest(unittest.TestCase):

    def check(self, pipeline, limits, widths):
        told = repr(pipeline)
        self.assertEqual(smallest_gap(pipeline), plain.smallest_gap(pipeline), told)
        for limit in limits:
            self.assertEqual(largest_gap(pipeline, limit), plain.largest_gap(pipeline, limit),
                             told + repr(limit))
        for width in widths:
            self.assertEqual(most_in_window(pipeline, width), plain.most_in_window(pipeline, width),
                             told + repr(width))

    def test_single_filters(self):
        for one in plain.FILTERS:
            self.check((one,), (1, 2, 3, 5, 8, 9, 13, 20), (1, 2, 7, 40))

    def test_small_pipelines(self):
        for pipeline in plain.SMALL_PIPELINES:
            self.check(pipeline, (1, 2, 3, 4, 5), (1, 3, 5, 8))

    def test_heavy_pipelines(self):
        for pipeline in plain.HEAVY:
            self.check(pipeline, (1, 4, 20), (6, 40))

    def test_random_pipelines(self):
        source = random.Random(24)
        for pipeline in sample_pipelines(25, 150):
            self.check(pipeline, [source.randint(1, 20) for _ in range(2)],
                       [source.randint(1, 40) for _ in range(2)])

    def test_all_limits_and_widths(self):
        for pipeline in [(("spaced", 2), ("fresh", 3)), (("limit", 2, 4), ("every", 2, 1)),
                         (("every", 3, 1), ("fresh", 5))]:
            self.check(pipeline, range(1, 21), range(1, 41))


class AllLogsTest(unittest.TestCase):
    """Searches through all short logs, for pipelines that need no long ones."""

    def setUp(self):
        self.pipelines = [(one,) for one in plain.SMALL]
        self.pipelines += plain.SMALL_PIPELINES[11::4]

    def test_smallest_gap(self):
        logs = plain.logs(9)
        for pipeline in self.pipelines:
            found = [gap for log in logs for gap in gaps(plain.keep(pipeline, log))]
            self.assertEqual(smallest_gap(pipeline), min(found), repr(pipeline))

    def test_largest_gap(self):
        for limit in (1, 2, 3):
            logs = plain.logs_from_zero(7, limit)
            for pipeline in self.pipelines:
                found = [gap for log in logs for gap in gaps(plain.keep(pipeline, log))]
                answer = largest_gap(pipeline, limit)
                if answer is not None:
                    self.assertEqual(answer, max(found + [0]), repr((pipeline, limit)))

    def test_no_largest_gap(self):
        # Where there is no largest gap, longer and longer ones are found in longer logs.
        for pipeline, limit in [((("fresh", 1),), 2), ((("fresh", 2),), 3),
                                ((("spaced", 2), ("fresh", 2)), 3)]:
            self.assertIsNone(largest_gap(pipeline, limit))
            best = []
            for many in (3, 4, 5, 6, 7, 8):
                logs = plain.logs_from_zero(many, limit)
                best.append(max(gap for log in logs for gap in gaps(plain.keep(pipeline, log)) + [0]))
            self.assertEqual(best, sorted(set(best)))

    def test_most_in_window(self):
        logs = plain.logs(9)
        for pipeline in self.pipelines:
            kept = [plain.keep(pipeline, log) for log in logs]
            for width in (1, 2, 3, 4, 5):
                found = max(in_window(times, width) for times in kept)
                self.assertEqual(most_in_window(pipeline, width), found, repr((pipeline, width)))


class GuaranteeTest(unittest.TestCase):
    """No log goes beyond the bounds of [24] to [26]."""

    def test_random_logs(self):
        source = random.Random(26)
        for pipeline in sample_pipelines(27, 200):
            nearest = smallest_gap(pipeline)
            for limit in (1, 3, 9, 20):
                far = largest_gap(pipeline, limit)
                log = [0]
                while len(log) < 200:
                    log.append(log[-1] + source.randint(1, limit))
                kept = keep(pipeline, tuple(log))
                self.assertGreaterEqual(min(gaps(kept) + [nearest]), nearest)
                if far is not None:
                    self.assertLessEqual(max(gaps(kept) + [0]), far)
                for width in (1, 7, 40):
                    self.assertLessEqual(in_window(kept, width), most_in_window(pipeline, width))

    def test_bounds_grow(self):
        for pipeline in sample_pipelines(28, 100):
            most = [most_in_window(pipeline, width) for width in range(1, 41)]
            self.assertEqual(most, sorted(most))
            # Two kept events fit into a window as soon as the smallest gap does.
            for width in range(1, 41):
                self.assertEqual(most[width - 1] > 1, width > smallest_gap(pipeline))
            far = [largest_gap(pipeline, limit) for limit in range(1, 21)]
            known = [gap for gap in far if gap is not None]
            self.assertEqual(known, sorted(known))
            self.assertEqual(far[len(known):], [None] * (20 - len(known)))
            for gap in known:
                self.assertTrue(gap == 0 or gap >= smallest_gap(pipeline))

    def test_some_event_can_be_kept(self):
        for pipeline in sample_pipelines(30, 50):
            self.assertGreaterEqual(most_in_window(pipeline, 1), 1)


class ResultTest(unittest.TestCase):

    def test_kinds_of_results(self):
        pipeline = (("limit", 2, 5), ("every", 2, 1))
        self.assertIs(type(smallest_gap(pipeline)), int)
        self.assertIs(type(largest_gap(pipeline, 20)), int)
        self.assertIs(type(largest_gap((("fresh", 3),), 3)), int)
        self.assertIs(type(most_in_window(pipeline, 40)), int)
        self.assertIs(type(most_in_window((), 40)), int)

    def test_beyond_the_bounds(self):
        self.assertEqual(smallest_gap((("spaced", 12), ("every", 6, 5))), 72)
        self.assertEqual(largest_gap((("spaced", 3),), 30), 32)
        self.assertEqual(largest_gap((("spaced", 12), ("every", 6, 5)), 25), 216)
        self.assertEqual(largest_gap((("spaced", 3),), 0), 0)
        self.assertEqual(most_in_window((("spaced", 3),), 60), 20)
        self.assertEqual(most_in_window((("spaced", 3),), 0), 0)
        # Such pipelines keep nothing at all.
        for pipeline in (NOTHING, (("limit", 0, 3),), ((("spaced", 3),) + NOTHING)):
            self.assertIsNone(smallest_gap(pipeline))
            self.assertEqual(largest_gap(pipeline, 20), 0)
            self.assertEqual(most_in_window(pipeline, 40), 0)


if __name__ == "__main__":
    unittest.main()
