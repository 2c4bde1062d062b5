import unittest
from fractions import Fraction

from asking import EULER, PARTS, TWELVE_STEPS, WRONG_LEVELS, WRONG_PRODUCTS, Asking, beyond, pair, product
from dividing_plainly import MANY, TAU, divisors, plain_low

from etaparts.ends import ends, orders
from etaparts.errors import InvalidEnd, InvalidLevel, InvalidProduct, InvalidStep
from etaparts.fitting import fitting_products
from etaparts.lows import low, lows


class TestLows(Asking):
    def test_against_the_words(self):
        for one in MANY:
            for m in (1, 2, 3, 4, 5, 6, 8, 9, 10, 12):
                for c in (1, 2, 3, 4, 5, 6, 7, 8, 10, 12, 15):
                    self.same(low(one, m, c), pair(plain_low(one, m, c)))

    def test_against_the_words_at_the_edges(self):
        for one in (PARTS, product((4, -5), (12, -3)), product((59, -60), (60, 60))):
            for m, c in ((30, 1), (30, 2), (30, 7), (29, 3), (1, 120), (1, 119), (2, 60), (25, 5), (24, 6)):
                self.same(low(one, m, c), pair(plain_low(one, m, c)))
        self.same(low(PARTS, 30, 120), (-1, 720))
        self.same(low(PARTS, 30, 1), (-5, 4))
        self.same(low(TWELVE_STEPS, 1, 1), pair(sum(Fraction(power, 24 * step) for step, power in TWELVE_STEPS[1])))

    def test_m_one_tells_orders(self):
        for level in (1, 2, 4, 6, 11, 12):
            for one in fitting_products(level, 2, 2)[:30] + fitting_products(level, 0, 3 - level % 3)[:30]:
                told = lows(one, 1, level)
                for (end, _, width), (at, value), order in zip(ends(level), told, orders(one, level)):
                    self.assertEqual(end, at)
                    self.assertEqual(Fraction(*value) * width, Fraction(*order))

    def test_all_ends(self):
        for one in MANY:
            for m in (1, 5, 6, 30):
                for level in (1, 4, 7, 12, 60, 120):
                    self.same(lows(one, m, level), [(end, low(one, m, end)) for end in divisors(level)])

    def test_known(self):
        self.same([low(PARTS, 5, 1), low(PARTS, 5, 5), lows(PARTS, 1, 2)], [(-5, 24), (-1, 120), [(1, (-1, 24)), (2, (-1, 24))]])
        self.same([low(TAU, 1, 3), low(EULER, 5, 1), low(product(), 7, 7)], [(1, 1), (1, 120), (0, 1)])
        self.same(lows(PARTS, 5, 1), [(1, (-5, 24))])

    def test_new_lists(self):
        self.new_each_time(lows, PARTS, 5, 10)

    def test_wrong_values(self):
        self.refused(InvalidProduct, WRONG_PRODUCTS, lambda value: low(value, 5, 1))
        self.refused(InvalidProduct, WRONG_PRODUCTS, lambda value: lows(value, 5, 1))
        self.refused(InvalidStep, beyond(1, 30), lambda value: low(PARTS, value, 1))
        self.refused(InvalidStep, beyond(1, 30), lambda value: lows(PARTS, value, 1))
        self.refused(InvalidEnd, beyond(1, 120), lambda value: low(PARTS, 5, value))
        self.refused(InvalidLevel, WRONG_LEVELS, lambda value: lows(PARTS, 5, value))
        self.told(InvalidProduct, {"value": None}, low, None, 0, 0)
        self.told(InvalidStep, {"value": 0}, low, PARTS, 0, 0)
        self.told(InvalidProduct, {"value": None}, lows, None, 0, 0)
        self.told(InvalidStep, {"value": 31}, lows, PARTS, 31, 121)


if __name__ == "__main__":
    unittest.main()
