"""Promises 27 to 29: what is kept of regular logs."""

import random
import unittest
from itertools import product

from tests import plain
from thinlog.regular import kept_before, kept_index, rhythm

EXAMPLE = (("spaced", 3), ("every", 2, 0))
LONGEST = (("every", 4, 3), ("every", 4, 3), ("every", 3, 2))
GREAT = 10 ** 15


class ExampleTest(unittest.TestCase):

    def test_rhythm(self):
        self.assertEqual(rhythm((("spaced", 3), ("every", 2, 0)), 2), (0, 4, 1))
        self.assertEqual(rhythm((("fresh", 3),), 2), (1, 1, 0))

    def test_kept_before(self):
        self.assertEqual(kept_before((("spaced", 3), ("every", 2, 0)), 2, 10), 3)

    def test_kept_index(self):
        self.assertEqual(kept_index((("spaced", 3), ("every", 2, 0)), 2, 1000), 3996)


class HandTest(unittest.TestCase):
    """Answers that were worked out by hand."""

    def test_empty_pipeline(self):
        for period in range(1, 21):
            self.assertEqual(rhythm((), period), (0, 1, 1))
            for number in (0, 1, 2, 17, GREAT):
                self.assertEqual(kept_before((), period, number), number)
            for rank in (1, 2, 17, GREAT):
                self.assertEqual(kept_index((), period, rank), rank - 1)

    def test_spaced(self):
        for d, period in product(range(1, 9), range(1, 21)):
            length = (d + period - 1) // period
            self.assertEqual(rhythm((("spaced", d),), period), (0, length, 1))
            self.assertEqual(kept_before((("spaced", d),), period, GREAT), -(-GREAT // length))
            self.assertEqual(kept_index((("spaced", d),), period, GREAT), (GREAT - 1) * length)

    def test_fresh(self):
        for d, period in product(range(1, 9), range(1, 21)):
            pipeline = (("fresh", d),)
            if period > d:
                self.assertEqual(rhythm(pipeline, period), (0, 1, 1))
                self.assertEqual(kept_before(pipeline, period, GREAT), GREAT)
                self.assertEqual(kept_index(pipeline, period, GREAT), GREAT - 1)
            else:
                # Only the first event is kept.
                self.assertEqual(rhythm(pipeline, period), (1, 1, 0))
                numbers = [kept_before(pipeline, period, number) for number in (0, 1, 2, GREAT)]
                self.assertEqual(numbers, [0, 1, 1, 1])
                self.assertEqual(kept_index(pipeline, period, 1), 0)
                for rank in (2, 3, GREAT):
                    self.assertIsNone(kept_index(pipeline, period, rank))

    def test_every(self):
        for n in range(2, 5):
            for k in range(n):
                pipeline = (("every", n, k),)
                self.assertEqual(rhythm(pipeline, 20), (0, n, 1))
                self.assertEqual(kept_before(pipeline, 20, GREAT), (GREAT - k + n - 1) // n)
                self.assertEqual(kept_index(pipeline, 20, GREAT), (GREAT - 1) * n + k)

    def test_limit(self):
        # Kept at period 1: 0, 1, 5, 6, 10, 11 ..; at period 2: 0, 2, 6, 8 ..; then all.
        self.assertEqual(rhythm((("limit", 2, 5),), 1), (0, 5, 2))
        self.assertEqual(rhythm((("limit", 2, 5),), 2), (0, 3, 2))
        self.assertEqual(rhythm((("limit", 2, 5),), 3), (0, 1, 1))
        self.assertEqual(kept_before((("limit", 2, 5),), 1, 7), 4)
        self.assertEqual(kept_before((("limit", 2, 5),), 1, GREAT), 2 * GREAT // 5)
        self.assertEqual(kept_index((("limit", 2, 5),), 1, 4), 6)
        self.assertEqual(kept_index((("limit", 2, 5),), 1, GREAT), 5 * (GREAT // 2 - 1) + 1)

    def test_long_rhythm(self):
        self.assertEqual(rhythm(LONGEST, 1), (0, 48, 1))
        self.assertEqual([kept_before(LONGEST, 1, number) for number in (47, 48, 95, 96)], [0, 1, 1, 2])
        self.assertEqual(kept_before(LONGEST, 20, GREAT), GREAT // 48)
        self.assertEqual(kept_index(LONGEST, 20, GREAT), 48 * GREAT - 1)
        self.assertEqual(rhythm((("spaced", 5), ("every", 4, 1), ("every", 3, 1)), 1), (0, 60, 1))

    def test_no_kept_event(self):
        # The first filter keeps event 0 only, and the second one drops that.
        pipeline = (("fresh", 8), ("every", 2, 1))
        self.assertEqual(rhythm(pipeline, 8), (0, 1, 0))
        self.assertEqual(kept_before(pipeline, 8, GREAT), 0)
        self.assertIsNone(kept_index(pipeline, 8, 1))
        self.assertIsNone(kept_index(pipeline, 8, GREAT))
        self.assertEqual(rhythm(pipeline, 9), (0, 2, 1))

    def test_late_start(self):
        # Event 3 is the first to come to the fresh filter, which drops all further ones.
        pipeline = (("every", 4, 3), ("fresh", 8))
        self.assertEqual(rhythm(pipeline, 2), (4, 1, 0))
        self.assertEqual([kept_before(pipeline, 2, number) for number in (0, 3, 4, 5, GREAT)],
                         [0, 0, 1, 1, 1])
        self.assertEqual(kept_index(pipeline, 2, 1), 3)
        self.assertIsNone(kept_index(pipeline, 2, 2))
        self.assertEqual(rhythm((("every", 2, 1), ("every", 3, 2), ("fresh", 8)), 1), (6, 1, 0))

    def test_decisions_repeat_sooner_than_states(self):
        # The first filters go on counting, but the fresh one drops all that comes from them.
        self.assertEqual(rhythm((("every", 2, 0), ("every", 2, 0), ("fresh", 8)), 2), (1, 1, 0))
        self.assertEqual(rhythm((("every", 3, 0), ("fresh", 6), ("every", 2, 0)), 2), (1, 1, 0))
        self.assertEqual(rhythm((("every", 3, 0), ("fresh", 6), ("every", 2, 1)), 2), (0, 1, 0))
        # One unit of time more between the events, and it keeps all that comes.
        self.assertEqual(rhythm((("every", 2, 0), ("every", 2, 0), ("fresh", 8)), 3), (0, 4, 1))


class PlainSearchTest(unittest.TestCase):
    """Comparisons with the first events of the regular log."""

    def check(self, pipeline, period, many):
        told = repr((pipeline, period))
        kept = plain.regular(pipeline, period, many)
        begin, length, count = plain.rhythm(kept)
        self.assertEqual(rhythm(pipeline, period), (begin, length, count), told)
        places = [number for number in range(many) if kept[number]]
        for number in range(many + 1):
            expected = len([place for place in places if place < number])
            self.assertEqual(kept_before(pipeline, period, number), expected, told)
        for rank, place in enumerate(places, start=1):
            self.assertEqual(kept_index(pipeline, period, rank), place, told)
        if count == 0:
            self.assertIsNone(kept_index(pipeline, period, len(places) + 1), told)
        self.check_great(pipeline, period, kept, (begin, length, count))

    def check_great(self, pipeline, period, kept, found):
        """Great numbers, brought back to the first events by whole rounds."""
        begin, length, count = found
        for number in (10 ** 6, 10 ** 9 + 7, GREAT - 1, GREAT):
            rounds, rest = divmod(number - begin, length)
            expected = sum(kept[:begin + rest]) + rounds * count
            self.assertEqual(kept_before(pipeline, period, number), expected)
            place = kept_index(pipeline, period, number)
            if count == 0:
                self.assertIsNone(place)
                continue
            self.assertEqual(kept_before(pipeline, period, place), number - 1)
            self.assertEqual(kept_before(pipeline, period, place + 1), number)

    def test_single_filters(self):
        for one in plain.FILTERS:
            for period in (1, 2, 3, 4, 5, 6, 7, 8, 9, 20):
                self.check((one,), period, 80)

    def test_small_pipelines(self):
        for pipeline in plain.SMALL_PIPELINES:
            for period in (1, 2, 3):
                self.check(pipeline, period, 80)

    def test_heavy_pipelines(self):
        for pipeline in plain.HEAVY:
            for period in (1, 2, 5, 20):
                self.check(pipeline, period, 250)

    def test_random_pipelines(self):
        source = random.Random(27)
        for _ in range(60):
            self.check(plain.random_pipeline(source), source.randint(1, 20), 250)

    def test_all_periods(self):
        for pipeline in (EXAMPLE, (("spaced", 8), ("fresh", 5)), (("limit", 3, 6), ("every", 3, 1))):
            for period in range(1, 21):
                self.check(pipeline, period, 150)


    def test_late_starts_beyond_the_bounds(self):
        # Within the bounds no event is kept where the decisions do not repeat from the start.
        late = (("limit", 3, 5), ("limit", 3, 7))
        self.assertEqual(rhythm(late, 1), (13, 5, 2))
        self.check(late, 1, 250)
        for pipeline in [(("limit", 3, 4), ("limit", 5, 10)), (("limit", 5, 10), ("limit", 5, 13)),
                         (("limit", 5, 12), ("limit", 2, 8)), (("limit", 3, 7), ("limit", 3, 11))]:
            for period in (1, 2, 3):
                self.check(pipeline, period, 250)
        for number in (-1, -5, -300):
            self.assertEqual(kept_before(late, 1, number), 0)


class ResultTest(unittest.TestCase):

    def test_kinds_of_results(self):
        for pipeline, period in [(EXAMPLE, 2), ((("fresh", 3),), 2), ((), 20)]:
            found = rhythm(pipeline, period)
            self.assertIs(type(found), tuple)
            for number in found:
                self.assertIs(type(number), int)
            self.assertIs(type(kept_before(pipeline, period, 1)), int)
            self.assertIs(type(kept_before(pipeline, period, GREAT)), int)
            self.assertIs(type(kept_index(pipeline, period, 1)), int)

    def test_beyond_the_bounds(self):
        self.assertEqual(rhythm((("spaced", 30),), 21), (0, 2, 1))
        self.assertEqual(kept_before(EXAMPLE, 100, 10 ** 20), 10 ** 20 // 2)
        self.assertEqual(kept_index(EXAMPLE, 100, 10 ** 20), 2 * 10 ** 20 - 2)
        self.assertEqual(kept_before(EXAMPLE, 2, -1), 0)
        self.assertEqual(kept_before((("fresh", 3),), 2, -5), 0)
        for rank in (0, -1, -5):
            self.assertIsNone(kept_index(EXAMPLE, 2, rank))
            self.assertIsNone(kept_index((("fresh", 3),), 2, rank))
        for period in (0, -1, -8):
            for pipeline in (EXAMPLE, (("limit", 3, 6),), (("fresh", 3),)):
                rhythm(pipeline, period)
                kept_before(pipeline, period, 10)
                kept_index(pipeline, period, 10)


if __name__ == "__main__":
    unittest.main()
