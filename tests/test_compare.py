"""Promises 15 to 18: pipelines compared for all logs."""

import random
import unittest
from itertools import permutations, product

from tests import plain
from thinlog.compare import contains, counterexample, equal, first_difference

NOTHING = (("every", 2, 1), ("limit", 1, 1))


class CompareCase(unittest.TestCase):

    def check(self, first, second, difference, lacking):
        """Compare all four answers with the expected logs."""
        told = repr((first, second))
        self.assertEqual(first_difference(first, second), difference, told)
        self.assertIs(equal(first, second), difference is None, told)
        self.assertEqual(counterexample(first, second), lacking, told)
        self.assertIs(contains(first, second), lacking is None, told)


class ExampleTest(unittest.TestCase):

    def test_first_difference(self):
        self.assertEqual(first_difference((("spaced", 2),), (("fresh", 1),)), (0, 1, 2))

    def test_equal(self):
        self.assertIs(equal((("limit", 1, 4),), (("spaced", 4),)), True)

    def test_counterexample(self):
        self.assertEqual(counterexample((("spaced", 3),), (("spaced", 2),)), (0, 2))

    def test_contains(self):
        self.assertIs(contains((("fresh", 2),), (("fresh", 4),)), True)


class HandTest(CompareCase):
    """Answers that were worked out by hand."""

    def test_first_event(self):
        self.check((("every", 2, 1),), (), (0,), (0,))
        self.check((), (("every", 2, 1),), (0,), None)

    def test_empty_pipeline(self):
        self.check((), (), None, None)
        self.check((), (("spaced", 1),), None, None)
        self.check((("spaced", 1),), (), None, None)
        self.check((), (("spaced", 4),), (0, 1), None)
        self.check((("spaced", 4),), (), (0, 1), (0, 1))

    def test_pipelines_that_keep_nothing(self):
        self.check(NOTHING, NOTHING, None, None)
        # The fresh filter passes event 0 alone if all gaps are at most 8.
        self.check((("spaced", 1),), NOTHING, (0,), None)
        self.check((("fresh", 8), ("every", 2, 1)), NOTHING, (0, 1), (0, 1))

    def test_both_directions_of_a_difference(self):
        # (0, 1): fresh drops 1. (0, 1, 2): only spaced keeps 2.
        self.check((("fresh", 1),), (("spaced", 2),), (0, 1, 2), (0, 1, 2))
        self.check((("spaced", 2),), (("fresh", 1),), (0, 1, 2), None)
        self.check((("every", 2, 0),), (("every", 2, 1),), (0,), (0, 1))
        self.check((("every", 2, 1),), (("every", 2, 0),), (0,), (0,))

    def test_counterexample_behind_a_difference(self):
        # Only the first pipeline keeps event 1, and that is why it drops event 2.
        self.check((("spaced", 2),), (("spaced", 3),), (0, 2), (0, 2, 3))
        self.check((("limit", 2, 3),), (("spaced", 2),), (0, 1), (0, 1, 2))

    def test_first_of_several(self):
        # With gaps of 3 and more, event 1 is kept by both: 2 is the first gap that tells.
        self.check((("fresh", 3),), (("fresh", 1),), (0, 2), (0, 2))
        self.check((("spaced", 8),), (("spaced", 7),), (0, 7), (0, 7))
        self.check((("fresh", 8),), (("fresh", 7),), (0, 8), (0, 8))
        self.check((("limit", 3, 6),), (("limit", 3, 5),), (0, 1, 2, 5), (0, 1, 2, 5))

    def test_long_logs_of_counting_filters(self):
        long = (("every", 4, 3), ("every", 4, 3), ("every", 3, 2))
        short = (("every", 4, 3), ("every", 3, 2), ("every", 2, 1))
        self.check(long, short, tuple(range(24)), tuple(range(24)))
        self.check(short, long, tuple(range(24)), None)
        # 48 events for each kept one against 36: the first 36th one that is no 48th one.
        other = (("every", 3, 2), ("every", 3, 2), ("every", 4, 3))
        self.check(long, other, tuple(range(36)), tuple(range(36)))
        self.check(other, long, tuple(range(36)), tuple(range(48)))


class EqualTest(CompareCase):
    """Equal pipelines, written differently."""

    def test_with_themselves(self):
        for pipeline in [(one,) for one in plain.FILTERS] + plain.SMALL_PIPELINES + plain.HEAVY:
            self.check(pipeline, pipeline, None, None)

    def test_written_differently(self):
        for first, second in (
            [((("limit", 1, w),), (("spaced", w),)) for w in range(1, 7)]
            + [((("limit", n, w),), ()) for n in range(1, 4) for w in range(1, n + 1)]
            + [((("spaced", 1), one), (one,)) for one in plain.FILTERS]
            + [((one, ("limit", 2, 2)), (one,)) for one in plain.FILTERS]
            + [((("spaced", d), ("spaced", 3)), (("spaced", d),)) for d in range(3, 9)]
            + [((("fresh", d), ("spaced", d + 1)), (("fresh", d),)) for d in range(1, 8)]
            + [((("spaced", d + 1), ("fresh", d)), (("spaced", d + 1),)) for d in range(1, 7)]
        ):
            if plain.weight(first) <= 60:
                self.check(first, second, None, None)
                self.check(second, first, None, None)

    def test_orders_of_counting_filters(self):
        last = (("every", 4, 3), ("every", 3, 2), ("every", 2, 1))
        first = (("every", 4, 0), ("every", 3, 0), ("every", 2, 0))
        for filters in (last, first):
            for one, other in product(permutations(filters), repeat=2):
                self.check(one, other, None, None)
        twice = (("every", 2, 1), ("every", 2, 1), ("every", 3, 2))
        self.check(twice, (("every", 4, 3), ("every", 3, 2)), None, None)

    def test_almost_equal(self):
        self.check((("limit", 1, 4),), (("spaced", 5),), (0, 4), (0, 4, 5))
        self.check((("limit", 2, 3),), (), (0, 1, 2), (0, 1, 2))
        self.check((("every", 4, 3),), (("every", 2, 1), ("every", 2, 0)), (0, 1), (0, 1))


class PlainSearchTest(CompareCase):
    """Small pipelines compared with a plain search through all short logs."""

    def test_all_small_pairs(self):
        # The reach of these pipelines is at most 3.
        logs = [log for many in range(1, 7) for log in plain.logs_from_zero(many, 3)]
        kept = {pipeline: [plain.keep(pipeline, log) for log in logs]
                for pipeline in plain.SMALL_PIPELINES}
        for first, second in product(plain.SMALL_PIPELINES, repeat=2):
            told = repr((first, second))
            unlike = [at for at, one in enumerate(kept[first]) if one != kept[second][at]]
            found = [logs[at] for at in unlike[:1]]
            self.check_found(first_difference(first, second), found, told)
            lacking = [at for at in unlike if set(kept[second][at]) - set(kept[first][at])]
            found = [logs[at] for at in lacking[:1]]
            self.check_found(counterexample(first, second), found, told)

    def check_found(self, answer, found, told):
        if found:
            self.assertEqual(answer, found[0], told)
        elif answer is not None:
            # All logs of up to 6 events were tried.
            self.assertGreater(len(answer), 6, told)

    def test_answers_are_differing_logs(self):
        for first, second in product(plain.SMALL_PIPELINES[::2], plain.SMALL_PIPELINES[1::2]):
            log = first_difference(first, second)
            if log is not None:
                self.assertTrue(plain.differs(first, second, log))
                self.assertFalse(plain.differs(first, second, log[:-1]))
            log = counterexample(first, second)
            if log is not None:
                self.assertTrue(plain.lacks(first, second, log))
                self.assertFalse(plain.lacks(first, second, log[:-1]))


class HistorySearchTest(CompareCase):
    """Pipelines with any parameters compared with a search through pairs of histories."""

    def check_searched(self, first, second):
        difference = plain.searched_difference(first, second)
        self.check(first, second, difference, plain.searched_counterexample(first, second))

    def test_small_pairs(self):
        for first, second in product(plain.SMALL_PIPELINES[::3], repeat=2):
            self.check_searched(first, second)

    def test_pairs_of_filters(self):
        for first, second in product(plain.FILTERS, repeat=2):
            self.check_searched((first,), (second,))

    def test_heavy_pairs(self):
        for first, second in product(plain.HEAVY, repeat=2):
            self.check_searched(first, second)

    def test_random_pairs(self):
        source = random.Random(17)
        done = 0
        while done < 150:
            first = [source.choice(plain.FILTERS) for _ in range(source.randint(1, 4))]
            second = list(first)
            source.shuffle(second)
            second[0] = source.choice([second[0], source.choice(plain.FILTERS)])
            if plain.weight(first) <= 60 and plain.weight(second) <= 60:
                self.check_searched(tuple(first), tuple(second))
                done += 1

    def test_longest_logs(self):
        self.assertEqual(len(first_difference(plain.HEAVY[0], plain.HEAVY[1])), 78)
        self.assertEqual(len(counterexample(plain.HEAVY[0], plain.HEAVY[1])), 84)
        self.assertEqual(len(counterexample(plain.HEAVY[2], plain.HEAVY[3])), 94)


class ResultTest(unittest.TestCase):

    def test_kinds_of_results(self):
        first, second = (("spaced", 2),), (("fresh", 1),)
        self.assertIs(type(first_difference(first, second)), tuple)
        self.assertIs(type(counterexample(second, first)), tuple)
        self.assertIsNone(first_difference(first, first))
        self.assertIsNone(counterexample(first, second))
        for function in (equal, contains):
            self.assertIs(function(first, first), True)
            self.assertIs(function(second, first), False)

    def test_same_answer_again(self):
        for function in (first_difference, equal, counterexample, contains):
            before = function(plain.HEAVY[0], plain.HEAVY[1])
            function(plain.HEAVY[4], plain.HEAVY[5])
            self.assertEqual(function(plain.HEAVY[0], plain.HEAVY[1]), before)

    def test_order_of_arguments(self):
        pairs = list(product(plain.HEAVY, repeat=2))
        pairs += list(product(plain.SMALL_PIPELINES[::2], repeat=2))
        for first, second in pairs:
            self.assertEqual(first_difference(first, second), first_difference(second, first))
            self.assertIs(equal(first, second), equal(second, first))

    def test_beyond_the_bounds(self):
        self.assertEqual(first_difference((("spaced", 12),), (("spaced", 13),)), (0, 12))
        self.assertEqual(counterexample((("fresh", 11),), (("fresh", 10),)), (0, 11))
        self.assertIs(equal((("limit", 1, 10),), (("spaced", 10),)), True)
        self.assertIs(equal((("limit", 4, 4),) * 5, ()), True)
        self.assertIs(equal((("spaced", 8), ("fresh", 8)), (("fresh", 8), ("spaced", 8))), False)
        self.assertIs(contains((("every", 5, 0),), (("every", 5, 0), ("every", 6, 3))), True)


if __name__ == "__main__":
    unittest.main()
