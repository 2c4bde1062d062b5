import unittest
from fractions import Fraction

from asking import NOT_INTEGERS, PARTS, TWELVE_STEPS, WRONG_LEVELS, WRONG_PRODUCTS, Asking, pair, product

from etaparts.errors import InvalidLevel, InvalidProduct, NotFitting
from etaparts.fitting import fits
from etaparts.levels import is_level, shift_of, turned, weight_of
from etaparts.ends import orders

MANY = [product(), PARTS, product((1, 24)), product((1, 2), (11, 2)), product((1, -4), (2, 10), (4, -4)),
        product((1, 3), (2, -1)), product((60, -60)), product((1, 60), (60, -60)), product((7, 1), (49, 2)), TWELVE_STEPS]


class TestIsLevel(Asking):
    def test_is_level(self):
        self.only_for(is_level, list(range(1, 121)), NOT_INTEGERS + [0, -1, 121, 10 ** 29, -10 ** 29])


class TestWeightAndShift(Asking):
    def test_weight_and_shift(self):
        self.same([weight_of(product()), shift_of(product())], [(0, 1), (0, 1)])
        self.same([weight_of(PARTS), shift_of(PARTS)], [(-1, 2), (-1, 24)])
        self.same([weight_of(product((1, 2), (11, 2))), shift_of(product((1, 2), (11, 2)))], [(2, 1), (1, 1)])
        self.same([weight_of(product((60, 60))), shift_of(product((60, 60)))], [(30, 1), (150, 1)])
        self.same([weight_of(product((1, 5), (2, -2))), shift_of(product((1, 5), (2, -2)))], [(3, 2), (1, 24)])
        for one in MANY:
            self.same(weight_of(one), pair(Fraction(sum(power for _, power in one[1]), 2)))
            self.same(shift_of(one), pair(Fraction(sum(step * power for step, power in one[1]), 24)))

    def test_wrong_values(self):
        self.refused(InvalidProduct, WRONG_PRODUCTS, weight_of)
        self.refused(InvalidProduct, WRONG_PRODUCTS, shift_of)


class TestTurned(Asking):
    def test_turned(self):
        self.same(turned(PARTS, 5), product((5, -1)))
        self.same(turned(product((1, 3), (2, -1)), 4), product((2, -1), (4, 3)))
        self.same(turned(product((1, 3), (2, -1)), 2), product((1, -1), (2, 3)))
        self.same(turned(product(), 120), product())
        self.same(turned(product((2, 1), (3, 2), (12, 5)), 12), product((1, 5), (4, 2), (6, 1)))

    def test_twice_it_is_as_it_was_and_the_weight_stays(self):
        for one in MANY:
            for level in range(1, 61):
                if all(level % step == 0 for step, _ in one[1]):
                    self.same(turned(turned(one, level), level), one)
                    self.same(weight_of(turned(one, level)), weight_of(one))

    def test_orders_are_turned(self):
        for one, level in ((product((1, 2), (11, 2)), 11), (product((1, -4), (2, 10), (4, -4)), 12), (product((1, 24)), 6),
                           (product((1, 1), (23, 1)), 46), (product((2, 12)), 4)):
            self.yes(fits(one, level))
            self.same(orders(turned(one, level), level), orders(one, level)[::-1])

    def test_levels_beyond_the_steps(self):
        self.too_many("step", 60, turned, PARTS, 61)
        self.too_many("step", 60, turned, PARTS, 120)
        self.too_many("step", 60, turned, product((1, 1), (2, 1)), 62)
        self.same(turned(product((2, -1)), 120), product((60, -1)))
        self.same(turned(product((60, 7)), 120), product((2, 7)))
        self.same(turned(product((2, 1), (59, 3)), 118), product((2, 3), (59, 1)))

    def test_steps_that_do_not_divide(self):
        self.told(NotFitting, {}, turned, product((2, 1)), 1)
        self.told(NotFitting, {}, turned, product((1, 1), (11, 2)), 12)
        # Ahead of a step that would be too great.
        self.told(NotFitting, {}, turned, product((1, 1), (7, 1)), 120)
        self.told(NotFitting, {}, turned, TWELVE_STEPS, 60)

    def test_wrong_values(self):
        self.refused(InvalidProduct, WRONG_PRODUCTS, lambda value: turned(value, 4))
        self.refused(InvalidLevel, WRONG_LEVELS, lambda value: turned(PARTS, value))
        self.told(InvalidProduct, {"value": None}, turned, None, 0)
        self.told(InvalidLevel, {"value": 121}, turned, product((7, 1)), 121)


if __name__ == "__main__":
    unittest.main()
