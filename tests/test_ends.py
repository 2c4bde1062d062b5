import itertools
import unittest
from fractions import Fraction
from math import gcd

from asking import (NOT_INTEGERS, PARTS, TWELVE_STEPS, WRONG_LEVELS, WRONG_PRODUCTS, WRONG_RATIOS, Asking, great, pair,
                    product)

from etaparts.divisors import index_of
from etaparts.ends import ends, is_falling, is_whole, order_at, orders, product_with
from etaparts.errors import InvalidEnd, InvalidLevel, InvalidOrders, InvalidProduct, NotFitting
from etaparts.fitting import fits, fitting_products
from etaparts.levels import shift_of, weight_of
from etaparts.products import product_power, product_times
from etaparts.ratios import ratio_of

GREAT, ELEVEN, FOUR = product((1, 24)), product((1, 2), (11, 2)), product((1, -4), (2, 10), (4, -4))
# Products that fit, with a level of each.
FITTING = [(GREAT, 1), (GREAT, 12), (GREAT, 120), (ELEVEN, 11), (ELEVEN, 110), (FOUR, 4), (FOUR, 36), (product(), 1),
           (product(), 120), (product((1, 1), (23, 1)), 23), (product((1, 24), (2, -24)), 2), (product((60, 12)), 120),
           (product((1, -2), (2, 3), (4, 3), (8, -2)), 8), (product((1, 24), (2, -24)), 72), (product((1, -24)), 60)]


def plain_order(one, level, end):
    width = Fraction(level, end * gcd(end, level // end))
    return width / 24 * sum(Fraction(gcd(end, step) ** 2 * power, step) for step, power in one[1])


class TestEnds(Asking):
    def test_all_levels(self):
        for level in range(1, 121):
            told = []
            for end in range(1, level + 1):
                if level % end == 0:
                    shared = gcd(end, level // end)
                    often = len([n for n in range(shared) if gcd(n, shared) == 1])
                    told.append((end, often, level // (end * shared)))
            self.same(ends(level), told)
            self.same(sum(often * width for _, often, width in ends(level)), index_of(level))
            self.same(told[-1], (level, 1, 1))

    def test_known_ends(self):
        self.same(ends(1), [(1, 1, 1)])
        self.same(ends(4), [(1, 1, 4), (2, 1, 1), (4, 1, 1)])
        self.same(ends(7), [(1, 1, 7), (7, 1, 1)])
        self.same(ends(9), [(1, 1, 9), (3, 2, 1), (9, 1, 1)])
        self.same(ends(36)[2:7], [(3, 2, 4), (4, 1, 9), (6, 2, 1), (9, 1, 4), (12, 2, 1)])
        self.same(ends(120)[-2:], [(60, 1, 1), (120, 1, 1)])

    def test_new_lists(self):
        self.new_each_time(ends, 4)

    def test_wrong_values(self):
        self.refused(InvalidLevel, WRONG_LEVELS, ends)


class TestOrders(Asking):
    def test_against_the_words(self):
        for one, level in FITTING:
            self.yes(fits(one, level))
            told = [pair(plain_order(one, level, end)) for end, _, _ in ends(level)]
            self.same(orders(one, level), told)
            self.same([order_at(one, level, end) for end, _, _ in ends(level)], told)
            self.same(told[-1], shift_of(one))
            turned = sum(level // step * power for step, power in one[1])
            self.same(told[0], ratio_of(turned, 24))
            self.assertEqual((told[0][1], told[-1][1]), (1, 1))

    def test_their_sum(self):
        for level in (1, 4, 6, 8, 9, 12, 25, 23, 36):
            for weight in (-1, 0, 1, 2):
                most = {4: 8, 6: 6, 8: 4, 12: 1, 36: 1}.get(level, 12)
                for one in fitting_products(level, weight, most):
                    told = sum(often * Fraction(*order) for (_, often, _), order in zip(ends(level), orders(one, level)))
                    self.assertEqual(told, Fraction(*weight_of(one)) * index_of(level) / 12)

    def test_added_up_and_taken_to_powers(self):
        together = fitting_products(8, 1, 4) + fitting_products(8, 0, 4)
        self.assertGreater(len(together), 5)
        for one in together:
            first = [Fraction(*order) for order in orders(one, 8)]
            for other in together:
                second = [Fraction(*order) for order in orders(other, 8)]
                both = [pair(a + b) for a, b in zip(first, second)]
                self.same(orders(product_times(one, other), 8), both)
            for exponent in (-2, -1, 0, 3):
                self.same(orders(product_power(one, exponent), 8), [pair(exponent * order) for order in first])

    def test_known_orders(self):
        self.same(orders(FOUR, 4), [(0, 1), (1, 2), (0, 1)])
        self.same(order_at(FOUR, 4, 2), (1, 2))
        self.same(orders(GREAT, 1), [(1, 1)])
        self.same(orders(GREAT, 6), [(6, 1), (3, 1), (2, 1), (1, 1)])
        self.same(orders(product((1, -24)), 2), [(-2, 1), (-1, 1)])
        self.same(orders(product(), 12), [(0, 1)] * 6)

    def test_new_lists(self):
        self.new_each_time(orders, FOUR, 4)

    def test_wrong_values(self):
        wrong_ends = NOT_INTEGERS + [0, -1, 3, 5, 8, -2, 10 ** 29]
        self.refused(InvalidEnd, wrong_ends, lambda value: order_at(FOUR, 4, value))
        self.refused(InvalidEnd, NOT_INTEGERS + [0, 2, 24, -1], lambda value: order_at(GREAT, 1, value))
        self.refused(InvalidProduct, WRONG_PRODUCTS, lambda value: order_at(value, 4, 1))
        self.refused(InvalidLevel, WRONG_LEVELS, lambda value: order_at(FOUR, value, 1))
        self.told(InvalidProduct, {"value": None}, order_at, None, 0, 0)
        self.told(InvalidLevel, {"value": 0}, order_at, PARTS, 0, 0)
        self.told(InvalidEnd, {"value": 3}, order_at, PARTS, 4, 3)
        self.told(NotFitting, {}, order_at, PARTS, 4, 2)
        for call in (orders, is_whole, is_falling):
            self.refused(InvalidProduct, WRONG_PRODUCTS, lambda value: call(value, 4))
            self.refused(InvalidLevel, WRONG_LEVELS, lambda value: call(FOUR, value))
            self.told(InvalidProduct, {"value": None}, call, None, 0)
            self.told(InvalidLevel, {"value": 121}, call, PARTS, 121)
            self.told(NotFitting, {}, call, PARTS, 1)
            self.told(NotFitting, {}, call, FOUR, 2)
            self.told(NotFitting, {}, call, TWELVE_STEPS, 60)


class TestWhole(Asking):
    def test_whole_and_falling(self):
        for level in (1, 2, 4, 6, 9, 11, 23):
            for weight in (-1, 0, 1, 2, 12):
                for one in fitting_products(level, weight, {4: 12, 6: 6}.get(level, 24)):
                    told = [plain_order(one, level, end) for end, _, _ in ends(level)]
                    self.same(is_whole(one, level), min(told) >= 0)
                    self.same(is_falling(one, level), min(told) > 0)
                    if is_falling(one, level):
                        self.yes(is_whole(one, level))
                    if is_whole(one, level):
                        self.assertGreaterEqual(weight, 0)
                        self.assertTrue(weight > 0 or one == product())

    def test_known(self):
        self.same([is_whole(FOUR, 4), is_falling(FOUR, 4)], [True, False])
        self.same([is_whole(GREAT, 1), is_falling(GREAT, 1)], [True, True])
        self.same([is_whole(ELEVEN, 11), is_falling(ELEVEN, 11)], [True, True])
        self.same([is_whole(product(), 1), is_falling(product(), 1)], [True, False])
        self.same([is_whole(product((1, -24)), 1), is_falling(product((1, -24)), 1)], [False, False])
        self.same([is_whole(product((1, 48), (2, -24)), 2), is_falling(product((1, 48), (2, -24)), 2)], [True, False])
        self.same([is_whole(product((1, -24), (2, 48)), 2), is_falling(product((1, -24), (2, 48)), 2)], [True, False])


class TestProductWith(Asking):
    def test_what_has_the_orders(self):
        for one, level in FITTING:
            self.same(product_with(level, orders(one, level)), one)
            self.same(product_with(level, tuple(orders(one, level))), one)
        for level, most in ((6, 6), (8, 4), (9, 12), (12, 1), (25, 12), (27, 3), (30, 1), (36, 1), (64, 1), (84, 1)):
            for one in fitting_products(level, 1, most) + fitting_products(level, 2, most):
                self.same(product_with(level, orders(one, level)), one)

    def test_all_levels(self):
        for level in range(1, 121):
            self.same(product_with(level, [(0, 1)] * len(ends(level))), product())
            told = [pair(plain_order(GREAT, level, end)) for end, _, _ in ends(level)]
            self.same(product_with(level, told), GREAT)
            steps = [step for step in range(1, 61) if level % step == 0][-12:]
            many = product(*[(step, 24 if step % 2 else -24) for step in steps])
            self.same(product_with(level, orders(many, level)), many)

    def test_powers_that_are_no_integers(self):
        self.same(product_with(4, [(0, 1), (1, 3), (0, 1)]), None)
        self.same(product_with(1, [(1, 48)]), None)
        self.same(product_with(1, [(49, 48)]), None)
        self.same(product_with(2, [(49, 24), (1, 1)]), None)
        self.same(product_with(1, [(1, 24 * 10 ** 27)]), None)
        self.same(product_with(2, [(1, 1), (0, 1)]), product((1, 16), (2, -8)))
        self.same(product_with(2, [(1, 5), (0, 1)]), None)

    def test_powers_beyond_sixty(self):
        self.same(product_with(1, [(2, 1)]), product((1, 48)))
        self.same(product_with(1, [(3, 1)]), None)
        self.same(product_with(1, [(-2, 1)]), product((1, -48)))
        self.same(product_with(1, [(-3, 1)]), None)
        self.same(product_with(1, [(10 ** 29, 1)]), None)
        self.same(product_with(2, [(10 ** 29, 1), (-10 ** 29, 1)]), None)

    def test_what_does_not_fit(self):
        # Orders that are no integers at 1 or at the level; a sum of powers that is odd.
        for level, steps in ((1, (1,)), (6, (1, 2, 3, 6)), (23, (1, 23)), (9, (1, 3, 9)), (61, (1,))):
            for powers in itertools.product((-3, -2, 0, 1, 2, 24), repeat=len(steps)):
                one = product(*[(step, power) for step, power in zip(steps, powers) if power])
                told = [pair(plain_order(one, level, end)) for end, _, _ in ends(level)]
                self.same(product_with(level, told), one if fits(one, level) else None)

    def test_too_many_steps_and_steps_too_great(self):
        divisors = [step for step in range(1, 121) if 120 % step == 0]
        for steps, there in ((divisors[:12], True), (divisors[:13], False), (divisors[2:15], False), ((60,), True),
                             ((120,), False), ((1, 120), False)):
            one = product(*[(step, 24) for step in steps])
            told = [pair(plain_order(one, 120, end)) for end in divisors]
            self.same(product_with(120, told), one if there else None)
        self.same(product_with(61, [(1, 1), (61, 1)]), None)
        self.same(product_with(61, [(61, 1), (1, 1)]), GREAT)

    def test_orders_of_many_digits(self):
        long = great(19)
        self.same(product_with(2, [long, (0, 1)]), None)
        self.same(product_with(2, [(0, 1), (1, long[0])]), None)
        self.same(product_with(1, [long]), None)

    def test_wrong_values(self):
        self.refused(InvalidLevel, WRONG_LEVELS, lambda value: product_with(value, [(0, 1)]))
        right = [(0, 1), (1, 2), (0, 1)]
        wrong = [True, None, 0, 1, "", "abc", b"abc", {}, {0: 1}, {1, 2, 3}, object(), [], (), right[:2], right + [(0, 1)],
                 tuple(right[:2]), tuple(right + right), [0, 1, 0], [(0, 1), (1, 2), 0], [(0, 1), None, (0, 1)]]
        wrong += [[(0, 1), value, (0, 1)] for value in WRONG_RATIOS] + [tuple([value] + right[1:]) for value in WRONG_RATIOS]
        self.refused(InvalidOrders, wrong, lambda value: product_with(4, value))
        self.told(InvalidLevel, {"value": 0}, product_with, 0, None)
        self.told(InvalidOrders, {"value": [(0, 1)]}, product_with, 2, [(0, 1)])


if __name__ == "__main__":
    unittest.main()
