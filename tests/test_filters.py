"""Promises 8, 9 and 10: what is a filter, a pipeline and a log."""

import unittest
from itertools import product

from tests import plain
from thinlog.filters import is_filter, is_log, is_pipeline, reach

HUGE = 10 ** 40 - 1


def nested(value, depth, kind):
    for _ in range(depth):
        value = kind([value])
    return value


# Values of all kinds that [2] allows and that are neither filters nor pipelines nor logs.
OTHERS = [
    None, True, False, 0, 1, -1, HUGE, -HUGE, "", "spaced", "x" * 100, "()",
    [], [()], [1, 2], ["spaced", 3], [("spaced", 3)], [0, 5], [None] * 300,
    (None,), (True,), (False,), ("",), ("spaced",), ("fresh",), ("every",), ("limit",),
    ((),), ([],), (((),),), ([[]],), (("spaced",),), ("spaced", "fresh"), (("spaced", 3), 0),
    ([], 3), ((), 3), (None, 3), (1, "spaced"), (3, 3, "every"), (0, None), (0, "1"), (0, (1,)),
    (None,) * 300, ("spaced",) * 300, (("spaced", 9),), (["spaced", 1],), (("spaced", 1), None),
    nested(1, 19, tuple), nested(1, 19, list), nested((), 19, tuple), nested("spaced", 20, tuple),
    nested(("spaced", 1), 18, tuple), nested([1, (2, "x")], 17, list), (nested(0, 19, list), 1),
]


class FilterTest(unittest.TestCase):

    def check(self, value, expected):
        answer = is_filter(value)
        self.assertIs(answer, expected, repr(value))

    def test_example(self):
        self.check(("every", 3, 3), False)

    def test_all_filters(self):
        for one in plain.FILTERS:
            self.check(one, True)

    def test_one_parameter_in_and_out_of_bounds(self):
        for name in ("spaced", "fresh"):
            for d in range(-3, 15):
                self.check((name, d), 1 <= d <= 8)
            for d in (HUGE, -HUGE, 2 ** 64 + 1):
                self.check((name, d), False)

    def test_two_parameters_in_and_out_of_bounds(self):
        for n, k in product(range(-2, 10), repeat=2):
            self.check(("every", n, k), 2 <= n <= 4 and 0 <= k < n)
            self.check(("limit", n, k), 1 <= n <= 3 and 1 <= k <= 6)
        for name in ("every", "limit"):
            self.check((name, HUGE, 1), False)
            self.check((name, 2, HUGE), False)
            self.check((name, 2, -HUGE), False)

    def test_parameters_of_other_kinds(self):
        for bad in (True, False, None, "1", "", (), (1,), [], [1], nested(1, 18, list)):
            self.check(("spaced", bad), False)
            self.check(("fresh", bad), False)
            self.check(("every", bad, 0), False)
            self.check(("every", 2, bad), False)
            self.check(("limit", bad, 1), False)
            self.check(("limit", 1, bad), False)

    def test_names(self):
        for name in ("Spaced", "spaced ", "", "drop", "f", "limits", "s" * 100, None, 1, True):
            self.check((name, 2), False)
            self.check((name, 2, 1), False)
        for name in ((), [], ("spaced",), ["spaced"], [[]], ([],), (("spaced", 1),)):
            self.check((name, 2), False)
            self.check((name, 2, 1), False)

    def test_numbers_of_items(self):
        for name, many in (("spaced", 1), ("fresh", 1), ("every", 2), ("limit", 2)):
            for items in range(6):
                self.check((name,) + (2, 1, 1, 1, 1)[:items], items == many)
            self.check((name,) + (1,) * 299, False)
        self.check((), False)

    def test_lists(self):
        for one in plain.FILTERS:
            self.check(list(one), False)
            self.check((one,), False)
            self.check([one], False)
            self.check((list(one),), False)

    def test_other_values(self):
        for value in OTHERS:
            self.check(value, False)


class PipelineTest(unittest.TestCase):

    def check(self, value, expected):
        answer = is_pipeline(value)
        self.assertIs(answer, expected, repr(value))

    def test_example(self):
        self.check((("limit", 3, 6), ("every", 4, 0)), False)

    def test_empty(self):
        self.check((), True)
        self.check([], False)

    def test_single_filters(self):
        for one in plain.FILTERS:
            self.check((one,), True)
            self.check(one, False)
            self.check([one], False)
            self.check((list(one),), False)

    def test_all_pairs(self):
        for pair in product(plain.FILTERS, repeat=2):
            self.check(pair, plain.weight(pair) <= 60)
            self.check(list(pair), False)

    def test_products_of_weights(self):
        for many in (3, 4):
            for filters in product(plain.FILTERS[2::5], repeat=many):
                self.check(filters, plain.weight(filters) <= 60)

    def test_weights_at_the_bound(self):
        # Each kind brings the product to 60 and then beyond it.
        fifteen = (("every", 3, 0), ("spaced", 5))
        self.check(fifteen + (("spaced", 4),), True)
        self.check(fifteen + (("spaced", 5),), False)
        self.check(fifteen + (("fresh", 3),), True)
        self.check(fifteen + (("fresh", 4),), False)
        self.check(fifteen + (("every", 4, 3),), True)
        self.check(fifteen + (("limit", 2, 2),), True)
        self.check(fifteen + (("limit", 1, 4),), True)
        self.check(fifteen + (("limit", 1, 5),), False)
        self.check((("spaced", 7), ("fresh", 7)), True)
        self.check((("spaced", 8), ("fresh", 7)), False)
        self.check((("fresh", 8), ("spaced", 6)), True)
        self.check((("fresh", 8), ("spaced", 7)), False)
        self.check((("limit", 2, 5), ("spaced", 6)), True)
        # No product of weights is 61 or 62: 63 is the next one above 60.
        self.check((("spaced", 7), ("fresh", 8)), False)
        self.check((("limit", 3, 3), ("spaced", 7)), False)

    def test_numbers_of_filters(self):
        for one in (("spaced", 1), ("limit", 1, 1)):
            for many in (0, 1, 2, 3, 4, 5, 6, 300):
                self.check((one,) * many, many <= 4)
        self.check((("every", 2, 0),) * 4, True)
        self.check((("every", 3, 0),) * 4, False)

    def test_wrong_filters(self):
        good = ("spaced", 2)
        for bad in (("spaced", 9), ("every", 2, 2), ("spaced", True), ["spaced", 2], "spaced",
                    None, 0, True, (), [], ("spaced",), (good,)):
            for value in ((bad,), (bad, good), (good, bad), (good, good, bad, good)):
                self.check(value, False)

    def test_other_values(self):
        for value in OTHERS:
            self.check(value, False)


class LogTest(unittest.TestCase):

    def check(self, value, expected):
        answer = is_log(value)
        self.assertIs(answer, expected, repr(value)[:200])

    def test_example(self):
        self.check((0, 5, 5), False)

    def test_order(self):
        for length in range(4):
            for times in product(range(4), repeat=length):
                self.check(times, list(times) == sorted(set(times)))

    def test_last_pair(self):
        self.check((0, 1, 2, 3, 3), False)
        self.check((0, 1, 2, 4, 3), False)
        self.check((1, 0, 2, 3, 4), False)

    def test_times_at_the_bounds(self):
        last = 10 ** 9
        for log in ((0,), (last,), (0, last), (last - 1, last)):
            self.check(log, True)
        for log in ((-1,), (-1, 0), (last + 1,), (0, last + 1), (last, last + 1),
                    (-1, last), (HUGE,), (-HUGE, 0), (0, HUGE)):
            self.check(log, False)

    def test_numbers_of_events(self):
        for many in (0, 1, 199, 200, 201, 299, 300):
            self.check(tuple(range(many)), many <= 200)
            self.check(tuple(range(10 ** 9 - many + 1, 10 ** 9 + 1)), many <= 200)

    def test_lists(self):
        self.check((), True)
        for value in ([], [0], [0, 5], [()], ([0],), ((0,),), ([0], [5])):
            self.check(value, False)

    def test_times_of_other_kinds(self):
        for value in ((True,), (False,), (False, True), (0, True), (False, 1), (0, True, 2),
                      (0, None), ("0",), (0, "1"), ("a", "b"), (0, (1,)), (0, [1]), ((), 1)):
            self.check(value, False)

    def test_other_values(self):
        for value in OTHERS:
            self.check(value, False)


class ReachTest(unittest.TestCase):

    def test_reach(self):
        self.assertEqual(reach(()), 1)
        self.assertEqual(reach((("every", 4, 0),)), 1)
        self.assertEqual(reach((("every", 4, 3),)), 1)
        self.assertEqual(reach((("spaced", 8),)), 8)
        self.assertEqual(reach((("fresh", 8),)), 9)
        self.assertEqual(reach((("limit", 3, 6),)), 6)
        self.assertEqual(reach((("spaced", 1), ("limit", 3, 2), ("fresh", 1))), 2)
        self.assertEqual(reach((("spaced", 3), ("fresh", 3), ("limit", 1, 3))), 4)


if __name__ == "__main__":
    unittest.main()
