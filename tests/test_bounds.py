import unittest
from fractions import Fraction
from math import floor

from asking import NOT_TUPLES, PARTS, TWELVE_STEPS, WRONG_LEVELS, WRONG_PRODUCTS, Asking, pair, product

from etaparts.bounds import bound_of, least_orders, sum_of_orders
from etaparts.divisors import index_of
from etaparts.ends import ends, orders
from etaparts.errors import InvalidLevel, InvalidProduct, InvalidProducts, NotFitting, UnlikeKinds
from etaparts.fitting import fitting_products, kind_of
from etaparts.levels import shift_of, weight_of
from etaparts.series import product_row

GREAT, FOUR = product((1, 24)), product((1, -4), (2, 10), (4, -4))
MINUS, LATE = product((1, 8), (2, -4)), product((2, -4), (4, 8))
THREE = product((1, -8), (2, 20), (4, -8))


def families():
    """Levels, each with some products of one kind that fit it."""
    for level, weight, most in ((1, 12, 24), (2, 4, 24), (4, 2, 12), (6, 1, 6), (6, 2, 8), (9, 2, 12), (12, 1, 2), (23, 1, 3)):
        kinds = {}
        for one in fitting_products(level, weight, most):
            kinds.setdefault(kind_of(one, level), []).append(one)
        for together in kinds.values():
            for many in (1, 2, 3, 8):
                for start in range(0, len(together), 7):
                    yield level, together[start:start + many]


class TestSumOfOrders(Asking):
    def test_weight_times_index(self):
        for level, products in families():
            for one in products:
                told = Fraction(*weight_of(one)) * index_of(level) / 12
                self.same(sum_of_orders(one, level), pair(told))
        self.same(sum_of_orders(FOUR, 4), (1, 2))
        self.same(sum_of_orders(GREAT, 120), (288, 1))
        self.same(sum_of_orders(product((1, -24)), 1), (-1, 1))
        self.same(sum_of_orders(product(), 9), (0, 1))

    def test_wrong_values(self):
        self.refused(InvalidProduct, WRONG_PRODUCTS, lambda value: sum_of_orders(value, 4))
        self.refused(InvalidLevel, WRONG_LEVELS, lambda value: sum_of_orders(FOUR, value))
        self.told(InvalidProduct, {"value": None}, sum_of_orders, None, 0)
        self.told(InvalidLevel, {"value": 0}, sum_of_orders, PARTS, 0)
        self.told(NotFitting, {}, sum_of_orders, PARTS, 1)
        self.told(NotFitting, {}, sum_of_orders, FOUR, 2)


class TestBounds(Asking):
    def test_against_the_words(self):
        tried = 0
        for level, products in families():
            tried += 1
            rows = [[Fraction(*order) for order in orders(one, level)] for one in products]
            least = [min(parts) for parts in zip(*rows)]
            self.same(least_orders(level, products), [pair(order) for order in least])
            self.same(least_orders(level, tuple(products)), [pair(order) for order in least])
            weight, _ = kind_of(products[0], level)
            taken = sum(often * order for (end, often, _), order in zip(ends(level), least) if end != level)
            bound = Fraction(weight * index_of(level), 12) - taken
            self.same(bound_of(level, products), pair(bound))
            self.same(bound_of(level, tuple(products)), pair(bound))
            shifts = [Fraction(*shift_of(one)) for one in products]
            self.assertTrue(bound == shifts[0] if len(products) == 1 else bound >= max(shifts))
        self.assertGreater(tried, 30)

    def test_known_bounds(self):
        self.same(least_orders(4, [FOUR]), [(0, 1), (1, 2), (0, 1)])
        self.same(bound_of(4, [FOUR]), (0, 1))
        self.same(bound_of(1, [GREAT, GREAT]), (1, 1))
        self.same(bound_of(4, [THREE, MINUS, LATE]), (1, 1))
        self.same(least_orders(4, [THREE, MINUS, LATE]), [(0, 1), (0, 1), (0, 1)])
        self.same(bound_of(120, [product()]), (0, 1))
        self.same(bound_of(2, [product((1, 24), (2, -24)), product((1, -24), (2, 24))]), (1, 1))
        self.same(bound_of(2, [product((1, -24), (2, 24)), product((1, 24), (2, -24))]), (1, 1))

    def test_eight_products(self):
        eight = fitting_products(6, 0, 6)[:8]
        self.assertEqual(len(eight), 8)
        self.assertEqual(len(least_orders(6, eight)), 4)
        self.same(bound_of(6, [GREAT] * 8), (1, 1))
        self.told(InvalidProducts, {"value": [GREAT] * 9}, bound_of, 6, [GREAT] * 9)

    def test_sums_begin_by_the_bound(self):
        # A sum of two products of one kind that is not nought has a number that is not 0 by their bound.
        for level, products in families():
            if len(products) == 2 and products[0] != products[1]:
                first, second = products
                start = min(shift_of(one)[0] for one in products)
                bound = floor(Fraction(*bound_of(level, products)))
                rows = [[0] * (shift_of(one)[0] - start) + product_row(one, bound - start + 1) for one in products]
                for times in (1, -1, 2):
                    self.assertTrue(any(a + times * b for a, b in zip(*rows)))
                self.assertEqual(shift_of(first)[1] * shift_of(second)[1], 1)

    def test_new_lists(self):
        self.new_each_time(least_orders, 4, [FOUR])

    def test_wrong_values(self):
        for call in (least_orders, bound_of):
            self.refused(InvalidLevel, WRONG_LEVELS, lambda value: call(value, [GREAT]))
            wrong = NOT_TUPLES[:-1] + [[], (), GREAT, PARTS, [None], ["product"], [GREAT, None], [GREAT] * 9, (GREAT,) * 9,
                                       [[GREAT]], ((GREAT,),), [GREAT, product((1, True))], {GREAT: 1}, {GREAT}]
            self.refused(InvalidProducts, wrong, lambda value: call(1, value))
            self.refused(InvalidProducts, [[GREAT, one] for one in WRONG_PRODUCTS], lambda value: call(1, value))
            self.told(InvalidLevel, {"value": 0}, call, 0, None)
            self.told(InvalidProducts, {"value": [PARTS, ()]}, call, 1, [PARTS, ()])

    def test_not_fitting_and_unlike_kinds(self):
        late = product((1, 1), (23, 1))
        for call in (least_orders, bound_of):
            self.told(NotFitting, {}, call, 1, [PARTS])
            self.told(NotFitting, {}, call, 1, [GREAT, PARTS])
            self.told(NotFitting, {}, call, 2, [FOUR])
            self.told(NotFitting, {}, call, 60, [TWELVE_STEPS])
            self.told(UnlikeKinds, {}, call, 1, [GREAT, product()])
            self.told(UnlikeKinds, {}, call, 92, [FOUR, late])
            self.told(UnlikeKinds, {}, call, 4, [THREE, MINUS, LATE, FOUR])
            # What does not fit is told ahead of unlike kinds.
            self.told(NotFitting, {}, call, 1, [GREAT, product(), PARTS])


if __name__ == "__main__":
    unittest.main()
