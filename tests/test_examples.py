"""The examples of the interface, with the very answers that stand there."""

import doctest
import unittest

EXAMPLES = r"""
>>> from etaparts.divisors import common_divisor, coprime_count, divisors_of, index_of, is_prime, primes_of, symbol
>>> [divisors_of(12), primes_of(360), coprime_count(12), coprime_count(1), is_prime(91), is_prime(97), common_divisor(-12, 18), common_divisor(0, 0)]
[[1, 2, 3, 4, 6, 12], [(2, 3), (3, 2), (5, 1)], 4, 1, False, True, 6, 0]
>>> [index_of(1), index_of(12), symbol(2, 7), symbol(-1, 7), symbol(21, 7)]
[1, 24, 1, -1, 0]

>>> from etaparts.ratios import added, compared, divided, is_ratio, less, ratio_of, square_free, times
>>> [is_ratio((2, 4)), is_ratio((0, 1)), is_ratio((1, True)), ratio_of(6, -4), added((1, 2), (1, 3)), less((1, 2), (1, 2)), times((2, 3), (3, 4)), divided((1, 2), (-3, 1))]
[False, True, False, (-3, 2), (5, 6), (0, 1), (1, 2), (-1, 6)]
>>> [compared((1, 2), (2, 3)), compared((-1, 1), (-2, 1)), square_free((8, 1)), square_free((-3, 4)), square_free((1, 6)), square_free((9, 25))]
[-1, 1, 2, -3, 6, 1]

>>> from etaparts.series import first_unlike, number_at, plain_row, product_row, row_at, row_power, rows_added, rows_times, section_of
>>> parts = ("product", ((1, -1),))
>>> [product_row(parts, 8), plain_row(("product", ((1, 1),)), 8), rows_added([1, 1, 2], [1, -1]), rows_times([1, 1, 2, 3], [1, -1, -1, 0])]
[[1, 1, 2, 3, 5, 7, 11, 15], [1, -1, -1, 0, 0, 1, 0, 1], [2, 0], [1, 0, 0, 0]]
>>> [row_power([1, -1, -1, 0], 2), row_at([1, -1, -1], 2, 5), section_of([1, 1, 2, 3, 5, 7, 11, 15], 3, 1), first_unlike([1, 1, 2], [1, 1, 2, 4]), number_at(parts, 7)]
[[1, -2, -1, 2], [1, 0, -1, 0, -1], [1, 5, 15], None, 15]

>>> from etaparts.products import is_product, parting_place, product_at, product_power, product_times
>>> both = ("product", ((1, 1), (2, 3)))
>>> [is_product(both), is_product(("product", ((2, 3), (1, 1)))), is_product(("product", ()))]
[True, False, True]
>>> [product_times(parts, both), product_power(both, -2), product_at(parts, 5), parting_place(parts, ("product", ((1, -1), (3, 2)))), parting_place(both, both)]
[('product', ((2, 3),)), ('product', ((1, -2), (2, -6))), ('product', ((5, -1),)), 3, None]

>>> from etaparts.kinds import colours_of, is_kind, most_of
>>> plain, odd, mixed = ("kind", 1, ((1, 0),)), ("kind", 2, ((0, 0), (1, 0))), ("kind", 3, ((2, 1), (1, 0), (1, 0)))
>>> [is_kind(plain), is_kind(("kind", 2, ((1, 0),))), is_kind(("kind", 1, ((0, 1),))), colours_of(odd, 4), colours_of(mixed, 9), most_of(mixed, 9), most_of(mixed, 10)]
[True, False, False, 0, 2, 1, 0]
"""


class TestExamples(unittest.TestCase):
    def test_examples(self):
        told = []
        found = doctest.DocTestParser().get_doctest(EXAMPLES, {}, "examples", "test_examples.py", 0)
        results = doctest.DocTestRunner(verbose=False).run(found, out=told.append)
        self.assertGreater(results.attempted, 0)
        self.assertEqual(results.failed, 0, "".join(told))


if __name__ == "__main__":
    unittest.main()
