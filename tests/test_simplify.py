"""Promises 19 to 23: simpler pipelines with the same effect."""

import random
import unittest
from itertools import combinations, product

from tests import plain
from thinlog.compare import equal
from thinlog.filters import all_filters
from thinlog.simplify import (
    commute, normal_form, redundant_filters, shortest_part, single_filter,
)

NEAR = [one for one in plain.FILTERS if one[0] in ("spaced", "fresh")]


def same(first, second):
    return plain.searched_difference(first, second) is None


def part(pipeline, indices):
    return tuple(pipeline[at] for at in indices)


def plain_redundant(pipeline):
    return [at for at in range(len(pipeline)) if same(pipeline[:at] + pipeline[at + 1:], pipeline)]


def plain_shortest(pipeline):
    """The best of all subsets, each of which is tried."""
    places = range(len(pipeline))
    subsets = [indices for many in range(len(pipeline) + 1) for indices in combinations(places, many)]
    fitting = [indices for indices in subsets if same(part(pipeline, indices), pipeline)]
    return min(fitting, key=lambda indices: (len(indices), indices))


def plain_single(pipeline):
    fitting = [one for one in plain.FILTERS if same((one,), pipeline)]
    return min(fitting) if fitting else None


def plain_normal_form(pipeline):
    spans = [one[1] - 1 if one[0] == "spaced" else one[1] for one in pipeline]
    return tuple(one for at, one in enumerate(pipeline)
                 if spans[at] > 0 and all(spans[at] > other for other in spans[:at]))


def sample_pipelines(seed, many):
    """Pipelines of which a part is often enough: some filters come twice, some have no effect."""
    source = random.Random(seed)
    found = []
    while len(found) < many:
        filters = [source.choice(plain.FILTERS) for _ in range(source.randint(0, 3))]
        extra = filters + [("spaced", source.randint(1, 3)), ("limit", 2, source.randint(1, 3))]
        filters.insert(source.randint(0, len(filters)), source.choice(extra))
        filters.insert(source.randint(0, len(filters)), source.choice(extra))
        pipeline = tuple(filters[:4])
        if plain.weight(pipeline) <= 60:
            found.append(pipeline)
    return found


class ExampleTest(unittest.TestCase):

    def test_redundant_filters(self):
        self.assertEqual(redundant_filters((("spaced", 4), ("spaced", 2))), [1])

    def test_commute(self):
        self.assertIs(commute(("spaced", 2), ("spaced", 4)), False)

    def test_shortest_part(self):
        self.assertEqual(shortest_part((("spaced", 4), ("spaced", 2), ("limit", 2, 3))), (0,))

    def test_single_filter(self):
        self.assertEqual(single_filter((("limit", 1, 4), ("spaced", 3))), ("limit", 1, 4))

    def test_normal_form(self):
        pipeline = (("spaced", 4), ("fresh", 3), ("spaced", 3), ("fresh", 4))
        self.assertEqual(normal_form(pipeline), (("spaced", 4), ("fresh", 4)))


class HandTest(unittest.TestCase):
    """Answers that were worked out by hand."""

    def test_empty_pipeline(self):
        self.assertEqual(redundant_filters(()), [])
        self.assertEqual(shortest_part(()), ())
        # The first filter that keeps everything: ("every", ..) and ("fresh", ..) never do.
        self.assertEqual(single_filter(()), ("limit", 1, 1))
        self.assertEqual(normal_form(()), ())

    def test_filters_without_effect(self):
        for one in [("spaced", 1), ("limit", 1, 1), ("limit", 2, 2), ("limit", 3, 1)]:
            self.assertEqual(redundant_filters((one,)), [0])
            self.assertEqual(redundant_filters((one,) * 4), [0, 1, 2, 3])
            self.assertEqual(shortest_part((one,) * 4), ())
            self.assertEqual(single_filter((one,)), ("limit", 1, 1))

    def test_redundant_alone_but_not_together(self):
        # Each of two equal filters can go, but not both.
        for one in [("spaced", 4), ("limit", 1, 3), ("fresh", 2)]:
            self.assertEqual(redundant_filters((one, one)), [0, 1])
            self.assertEqual(shortest_part((one, one)), (0,))
        self.assertEqual(redundant_filters((("limit", 1, 3), ("spaced", 3))), [0, 1])
        self.assertEqual(redundant_filters((("every", 2, 0), ("every", 2, 0))), [])

    def test_only_the_later_ones_are_redundant(self):
        self.assertEqual(redundant_filters((("every", 2, 0), ("every", 3, 0))), [])
        # What the first filter keeps is at least 4 apart.
        pipeline = (("spaced", 4), ("fresh", 3), ("spaced", 2))
        self.assertEqual(redundant_filters(pipeline), [1, 2])
        self.assertEqual(shortest_part(pipeline), (0,))
        # What the fresh filter keeps is more than 3 apart, but its input matters.
        self.assertEqual(redundant_filters(pipeline[::-1]), [2])
        self.assertEqual(shortest_part(pipeline[::-1]), (0, 1))

    def test_first_of_several_parts(self):
        pipeline = (("spaced", 1), ("spaced", 3), ("limit", 1, 3), ("spaced", 3))
        self.assertEqual(redundant_filters(pipeline), [0, 1, 2, 3])
        self.assertEqual(shortest_part(pipeline), (1,))
        pipeline = (("spaced", 2), ("fresh", 2), ("spaced", 3), ("every", 2, 0))
        self.assertEqual(redundant_filters(pipeline), [2])
        self.assertEqual(shortest_part(pipeline), (0, 1, 3))

    def test_commute(self):
        self.assertIs(commute(("spaced", 3), ("spaced", 3)), True)
        self.assertIs(commute(("every", 2, 0), ("every", 3, 0)), True)
        self.assertIs(commute(("every", 2, 1), ("every", 3, 0)), False)
        self.assertIs(commute(("spaced", 1), ("fresh", 8)), True)
        self.assertIs(commute(("limit", 1, 4), ("spaced", 4)), True)
        self.assertIs(commute(("limit", 1, 4), ("spaced", 5)), False)
        # With a product of weights of 60 and 56.
        self.assertIs(commute(("limit", 2, 5), ("spaced", 6)), False)
        self.assertIs(commute(("spaced", 8), ("fresh", 6)), False)
        self.assertIs(commute(("fresh", 6), ("spaced", 7)), False)

    def test_single_filter(self):
        self.assertEqual(single_filter((("spaced", 4),)), ("limit", 1, 4))
        self.assertEqual(single_filter((("spaced", 7),)), ("spaced", 7))
        self.assertEqual(single_filter((("every", 2, 1), ("every", 2, 0))), ("every", 4, 1))
        self.assertEqual(single_filter((("every", 2, 0), ("every", 2, 1))), ("every", 4, 2))
        self.assertIsNone(single_filter((("every", 2, 0), ("every", 3, 0))))
        self.assertEqual(single_filter((("limit", 3, 6), ("limit", 3, 5))), ("limit", 3, 6))
        self.assertEqual(single_filter((("limit", 2, 2), ("limit", 2, 4))), ("limit", 2, 4))
        self.assertIsNone(single_filter((("spaced", 2), ("fresh", 8))))

    def test_normal_form(self):
        self.assertEqual(normal_form((("spaced", 1),) * 4), ())
        self.assertEqual(normal_form((("fresh", 1),)), (("fresh", 1),))
        self.assertEqual(normal_form((("spaced", 2), ("fresh", 1))), (("spaced", 2),))
        self.assertEqual(normal_form((("fresh", 1), ("spaced", 2))), (("fresh", 1),))
        self.assertEqual(normal_form((("spaced", 8), ("fresh", 7))), (("spaced", 8),))
        rising = (("spaced", 2), ("fresh", 2), ("spaced", 4))
        self.assertEqual(normal_form(rising), rising)
        self.assertEqual(normal_form(rising[::-1]), (("spaced", 4),))
        # Larger than the one before it, but not than all before it.
        falling = (("fresh", 4), ("fresh", 2), ("fresh", 3))
        self.assertEqual(normal_form(falling), (("fresh", 4),))


class PlainSearchTest(unittest.TestCase):

    def check(self, pipeline):
        told = repr(pipeline)
        self.assertEqual(redundant_filters(pipeline), plain_redundant(pipeline), told)
        self.assertEqual(shortest_part(pipeline), plain_shortest(pipeline), told)
        self.assertEqual(single_filter(pipeline), plain_single(pipeline), told)

    def test_single_filters(self):
        for one in plain.FILTERS:
            self.check((one,))

    def test_small_pipelines(self):
        for pipeline in plain.SMALL_PIPELINES[1::2]:
            self.check(pipeline)

    def test_heavy_pipelines(self):
        for pipeline in plain.HEAVY:
            self.check(pipeline)

    def test_pipelines_with_redundant_filters(self):
        for pipeline in sample_pipelines(19, 120):
            self.check(pipeline)

    def test_commute(self):
        for one, other in combinations(plain.FILTERS[::2] + plain.FILTERS[1::6], 2):
            if plain.weight((one, other)) <= 60:
                expected = same((one, other), (other, one))
                self.assertIs(commute(one, other), expected, repr((one, other)))
                self.assertIs(commute(other, one), expected, repr((one, other)))

    def test_commute_with_itself(self):
        for one in plain.FILTERS:
            if plain.weight((one, one)) <= 60:
                self.assertIs(commute(one, one), True)

    def test_all_filters(self):
        self.assertEqual(all_filters(), sorted(plain.FILTERS))
        self.assertEqual(len(all_filters()), 43)


class NormalFormTest(unittest.TestCase):

    def test_by_the_words(self):
        for many in range(4):
            for pipeline in product(NEAR[::2] + NEAR[7:9], repeat=many):
                self.assertEqual(normal_form(pipeline), plain_normal_form(pipeline))

    def test_equal_to_the_pipeline(self):
        source = random.Random(23)
        done = 0
        while done < 150:
            pipeline = tuple(source.choice(NEAR) for _ in range(source.randint(1, 4)))
            if plain.weight(pipeline) <= 60:
                self.assertTrue(same(normal_form(pipeline), pipeline), repr(pipeline))
                done += 1

    def test_decides_equality(self):
        small = [one for one in NEAR if one[1] < 4]
        pipelines = [pipeline for many in range(3) for pipeline in product(small, repeat=many)]
        pipelines += [(one,) for one in NEAR if one[1] >= 4]
        for first, second in combinations(pipelines, 2):
            expected = normal_form(first) == normal_form(second)
            self.assertIs(equal(first, second), expected, repr((first, second)))

    def test_decides_equality_by_plain_search(self):
        small = [one for one in NEAR if one[1] < 3]
        pipelines = [pipeline for many in range(3) for pipeline in product(small, repeat=many)]
        for first, second in combinations(pipelines, 2):
            expected = normal_form(first) == normal_form(second)
            self.assertIs(same(first, second), expected, repr((first, second)))

    def test_distinct_forms_differ(self):
        source = random.Random(29)
        forms = set()
        while len(forms) < 60:
            pipeline = tuple(source.choice(NEAR) for _ in range(source.randint(1, 4)))
            if plain.weight(pipeline) <= 60:
                forms.add(normal_form(pipeline))
        for first, second in combinations(sorted(forms), 2):
            self.assertIs(equal(first, second), False, repr((first, second)))


class ResultTest(unittest.TestCase):

    def test_kinds_of_results(self):
        pipeline = (("spaced", 4), ("spaced", 2))
        self.assertIs(type(redundant_filters(pipeline)), list)
        self.assertIs(type(shortest_part(pipeline)), tuple)
        self.assertIs(type(single_filter(pipeline)), tuple)
        self.assertIs(type(normal_form(pipeline)), tuple)
        for one in single_filter(pipeline)[1:]:
            self.assertIs(type(one), int)

    def test_parts_cannot_be_shortened(self):
        for pipeline in sample_pipelines(21, 100):
            indices = shortest_part(pipeline)
            chosen = part(pipeline, indices)
            self.assertTrue(equal(chosen, pipeline))
            self.assertEqual(shortest_part(chosen), tuple(range(len(chosen))))
            self.assertEqual(redundant_filters(chosen), [])

    def test_beyond_the_bounds(self):
        self.assertEqual(redundant_filters((("spaced", 12), ("spaced", 10))), [1])
        self.assertEqual(shortest_part((("spaced", 9), ("limit", 4, 4)) * 3), (0,))
        self.assertIsNone(single_filter((("spaced", 9),)))
        self.assertIs(commute(("spaced", 8), ("fresh", 8)), False)
        self.assertIs(commute(("limit", 3, 6), ("limit", 2, 5)), False)
        self.assertEqual(normal_form((("fresh", 10), ("spaced", 12)) * 3),
                         (("fresh", 10), ("spaced", 12)))


if __name__ == "__main__":
    unittest.main()
