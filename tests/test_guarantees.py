"""Promise 3: what holds for all pipelines and logs."""

import random
import unittest
from itertools import product

from tests import plain
from thinlog.compare import contains, equal, first_difference
from thinlog.thinning import decisions, influential, keep, stages


def reach(pipeline):
    """The reach, by the words of [3]."""
    numbers = [1]
    for one in pipeline:
        if one[0] == "spaced":
            numbers.append(one[1])
        if one[0] == "fresh":
            numbers.append(one[1] + 1)
        if one[0] == "limit":
            numbers.append(one[2])
    return max(numbers)


def log_of(gaps, begin=0):
    times = [begin]
    for gap in gaps:
        times.append(times[-1] + gap)
    return tuple(times)


class GuaranteeTest(unittest.TestCase):

    def setUp(self):
        source = random.Random(31)
        self.pipelines = [(one,) for one in plain.FILTERS]
        while len(self.pipelines) < 400:
            pipeline = tuple(source.choice(plain.FILTERS) for _ in range(source.randint(2, 4)))
            if plain.weight(pipeline) <= 60:
                self.pipelines.append(pipeline)
        self.gaps = [[source.randint(1, widest) for _ in range(30)] for widest in (2, 4, 10, 14)]

    def cases(self):
        return product(self.pipelines, self.gaps)

    def test_shifted_logs(self):
        for pipeline, gaps in self.cases():
            log = log_of(gaps)
            for shift in (1, 17, 10 ** 9 - log[-1]):
                moved = tuple(time + shift for time in log)
                self.assertEqual(decisions(pipeline, moved), decisions(pipeline, log))
                self.assertEqual(influential(pipeline, moved), influential(pipeline, log))
                kept = tuple(time + shift for time in keep(pipeline, log))
                self.assertEqual(keep(pipeline, moved), kept)
                parts = [tuple(time + shift for time in part) for part in stages(pipeline, log)]
                self.assertEqual(stages(pipeline, moved), parts)

    def test_prefixes(self):
        for pipeline, gaps in self.cases():
            log = log_of(gaps)
            whole = decisions(pipeline, log)
            for many in (0, 1, 2, 5, 13, 30):
                self.assertEqual(decisions(pipeline, log[:many]), whole[:many])

    def test_other_endings(self):
        for pipeline, gaps in self.cases():
            log = log_of(gaps)
            other = log[:12] + tuple(time + 3 for time in log[12:]) + (10 ** 6,)
            self.assertEqual(decisions(pipeline, other)[:12], decisions(pipeline, log)[:12])

    def test_gaps_above_the_reach(self):
        for pipeline, gaps in self.cases():
            far = reach(pipeline)
            expected = decisions(pipeline, log_of(gaps))
            short = [min(gap, far) for gap in gaps]
            self.assertEqual(decisions(pipeline, log_of(short)), expected)
            longer = [gap + 7 if gap >= far else gap for gap in gaps]
            self.assertEqual(decisions(pipeline, log_of(longer)), expected)
            longest = [10 ** 6 if gap >= far else gap for gap in gaps]
            self.assertEqual(decisions(pipeline, log_of(longest)), expected)

    def test_equality_and_gaps_up_to_the_reach(self):
        small = plain.SMALL_PIPELINES
        for first, second in product(small[::4], small[::3]):
            found = first_difference(first, second)
            if found is None:
                continue
            far = max(reach(first), reach(second))
            self.assertLessEqual(max([b - a for a, b in zip(found, found[1:])] + [1]), far)

    def test_equality_and_containment(self):
        pairs = list(product(plain.SMALL_PIPELINES, repeat=2))
        pairs += list(product(self.pipelines[:43], repeat=2))
        pairs += list(zip(self.pipelines, self.pipelines[1:]))
        for first, second in pairs:
            both = contains(first, second) and contains(second, first)
            self.assertEqual(equal(first, second), both, repr((first, second)))


if __name__ == "__main__":
    unittest.main()
