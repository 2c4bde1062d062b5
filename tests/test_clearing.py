import unittest
from fractions import Fraction

from asking import NOT_TUPLES, PARTS, WRONG_LEVELS, WRONG_PRODUCTS, Asking, beyond, pair, product
from dividing_plainly import MANY, PAIRS, TAU, THREES, clears_plainly, divisors, plain_bound, plain_index, plain_low

from etaparts.clearing import bound, is_clearing, least_power, told_clearing
from etaparts.errors import InvalidClearing, InvalidLevel, InvalidProduct, InvalidRest, InvalidStep, NotFitting, TooMany
from etaparts.orbits import orbit, orbits
from etaparts.serving import least_serving, serves

# No clearings of the partitions and 5 at the level 5, whatever power they have.
WRONG_CLEARINGS = NOT_TUPLES + [
    (), (1,), (5,), (1, 5, 0), [1, 5], (1, 4), (1, -1), (5, 24), (5, -25), (1, 0), (0, 5), (2, 100), (-1, 100), (6, 100),
    (25, 1000), (10, 1000), (True, 5), (1, True), (False, 5), ("1", 5), (1, "5"), (None, 5), (1, None), ((1,), 5),
    (1, (5,)), ([1], 5), (1, [5]), ((1, 5),), "15", {1: 5, 5: 25}, (1, -10 ** 29), (10 ** 29, 10 ** 29),
]


class TestClearings(Asking):
    def test_least_powers_against_the_words(self):
        for one in MANY:
            for m in (1, 2, 3, 5, 6, 10):
                for level in (1, 2, 5, 6, 8, 9, 12):
                    lows = [(c, plain_low(one, m, c)) for c in divisors(level)]
                    for step in divisors(level):
                        power = least_power(one, m, level, step)
                        self.assertIs(type(power), int)
                        self.assertTrue(power >= 0 and clears_plainly(lows, step, power))
                        self.assertFalse(power > 0 and clears_plainly(lows, step, power - 1))
                        self.yes(is_clearing(one, m, level, (step, power)))
                        self.yes(is_clearing(one, m, level, (step, power + 1)))
                        self.yes(is_clearing(one, m, level, (step, 10 ** 30 - 1)))
                        self.no(is_clearing(one, m, level, (step, power - 1)))

    def test_power_nought(self):
        self.same([least_power(TAU, 1, 1, 1), least_power(product(), 30, 120, 60), least_power(TAU, 5, 10, 2)], [0, 0, 0])
        self.yes(is_clearing(TAU, 1, 1, (1, 0)))
        self.yes(is_clearing(product(), 30, 120, (120, 0)))
        self.no(is_clearing(TAU, 1, 1, (1, -1)))
        self.no(is_clearing(PARTS, 1, 1, (1, 0)))
        self.yes(is_clearing(PARTS, 1, 1, (1, 1)))

    def test_known(self):
        self.same([least_power(PARTS, 5, 5, 1), least_power(PARTS, 5, 5, 5), least_power(PARTS, 7, 7, 1)], [5, 25, 7])
        # Levels that don't serve have clearings, too.
        self.no(serves(PARTS, 5, 4, 7))
        self.yes(is_clearing(PARTS, 5, 7, (1, 5)))
        self.yes(is_clearing(PARTS, 5, 5, (5, 25)))
        self.no(is_clearing(PARTS, 5, 5, (5, 24)))

    def test_of_any_value(self):
        self.only_for(lambda value: is_clearing(PARTS, 5, 5, value), [(1, 5), (1, 6), (5, 25), (5, 10 ** 29)], WRONG_CLEARINGS)

    def test_wrong_values(self):
        for call in (lambda one, m, level: is_clearing(one, m, level, (1, 5)),
                     lambda one, m, level: least_power(one, m, level, 1)):
            self.refused(InvalidProduct, WRONG_PRODUCTS, lambda value: call(value, 5, 5))
            self.refused(InvalidStep, beyond(1, 30), lambda value: call(PARTS, value, 5))
            self.refused(InvalidLevel, WRONG_LEVELS, lambda value: call(PARTS, 5, value))
            self.told(InvalidProduct, {"value": None}, call, None, 0, 0)
            self.told(InvalidStep, {"value": 31}, call, PARTS, 31, 121)
        self.refused(InvalidStep, beyond(1, 10) + [3, 4, 6, -5], lambda value: least_power(PARTS, 5, 10, value))
        self.told(InvalidLevel, {"value": 0}, least_power, PARTS, 5, 0, 0)


class TestBounds(Asking):
    def test_against_the_words(self):
        signs = []
        for one in MANY:
            for m in (1, 2, 3, 5, 7, 10, 12):
                for rests in orbits(one, m):
                    level = least_serving(one, m, rests[0])
                    if level is None:
                        continue
                    for step in divisors(level):
                        for power in (least_power(one, m, level, step), least_power(one, m, level, step) + 3):
                            told = plain_bound(one, m, rests[0], level, step, power)
                            signs.append((told > 0) - (told < 0) + 2 * (told > 200))
                            for t in rests:
                                self.same(bound(one, m, t, level, (step, power)), pair(told))
        self.assertEqual(sorted(set(signs)), [-1, 0, 1, 3])

    def test_known(self):
        self.same([bound(PARTS, 5, 4, 5, (1, 5)), bound(PARTS, 7, 5, 7, (1, 7)), bound(product(), 2, 1, 2, (1, 0))],
                  [(0, 1), (1, 1), (-1, 2)])
        self.same(bound(PARTS, 5, 4, 10, (1, 5)), pair(plain_bound(PARTS, 5, 4, 10, 1, 5)))
        # Of the least rest, whichever is told.
        self.same([bound(PAIRS, 5, 2, 5, (1, 10)), bound(PAIRS, 5, 4, 5, (1, 10))], [pair(plain_bound(PAIRS, 5, 2, 5, 1, 10))] * 2)

    def test_of_a_level_that_does_not_serve(self):
        self.told(NotFitting, {}, bound, PARTS, 5, 4, 7, (1, 5))
        self.told(NotFitting, {}, bound, PARTS, 5, 4, 6, (1, 5))
        self.told(InvalidClearing, {"value": (1, 4)}, bound, PARTS, 5, 4, 7, (1, 4))

    def test_wrong_values(self):
        self.refused(InvalidProduct, WRONG_PRODUCTS, lambda value: bound(value, 5, 4, 5, (1, 5)))
        self.refused(InvalidStep, beyond(1, 30), lambda value: bound(PARTS, value, 0, 5, (1, 5)))
        self.refused(InvalidRest, beyond(0, 4) + [5], lambda value: bound(PARTS, 5, value, 5, (1, 5)))
        self.refused(InvalidLevel, WRONG_LEVELS, lambda value: bound(PARTS, 5, 4, value, (1, 5)))
        self.refused(InvalidClearing, WRONG_CLEARINGS, lambda value: bound(PARTS, 5, 4, 5, value))
        self.told(InvalidProduct, {"value": None}, bound, None, 0, -1, 0, None)
        self.told(InvalidStep, {"value": 0}, bound, PARTS, 0, -1, 0, None)
        self.told(InvalidRest, {"value": 5}, bound, PARTS, 5, 5, 0, None)
        self.told(InvalidLevel, {"value": 0}, bound, PARTS, 5, 4, 0, None)


class TestToldClearings(Asking):
    def test_against_the_words(self):
        equal = 0
        for one in MANY:
            for m in (1, 2, 3, 4, 5, 7, 8, 9, 10, 15):
                for t in range(m):
                    level = least_serving(one, m, t)
                    if level is None:
                        self.too_many("level", 120, told_clearing, one, m, t)
                        continue
                    rest = orbit(one, m, t)[0]
                    choices = []
                    for step in divisors(level):
                        power = least_power(one, m, level, step)
                        choices.append((plain_bound(one, m, rest, level, step, power), step, power))
                    value, step, power = min(choices)
                    equal += [choice[0] for choice in choices].count(value) > 1
                    self.same(told_clearing(one, m, t), (level, step, power, pair(value)))
        # Some have more than one divisor with the least bound.
        self.assertGreater(equal, 5)

    def test_known(self):
        self.same([told_clearing(PARTS, 5, 4), told_clearing(PARTS, 7, 5), told_clearing(THREES, 3, 2)],
                  [(5, 1, 5, (0, 1)), (7, 1, 7, (1, 1)), (3, 1, 9, (0, 1))])
        self.same(told_clearing(product(), 2, 1), (2, 1, 0, (-1, 2)))
        self.same(told_clearing(PARTS, 1, 0), (1, 1, 1, (0, 1)))
        # Bounds at 200 and just above.
        self.same(told_clearing(product((1, -44)), 11, 0), (11, 1, 484, (200, 1)))
        self.same(told_clearing(product((1, -31)), 13, 0), (13, 1, 403, (2604, 13)))
        self.same(plain_index(11) * 440 - 484, 4796)
        self.same(Fraction(*told_clearing(product((1, -60)), 27, 7)[3]), Fraction(577, 3))

    def test_no_level_serves(self):
        for t in range(6):
            self.too_many("level", 120, told_clearing, PARTS, 6, t)
        self.too_many("level", 120, told_clearing, product((58, 1), (59, 1)), 1, 0)

    def test_wrong_values(self):
        self.refused(InvalidProduct, WRONG_PRODUCTS, lambda value: told_clearing(value, 5, 4))
        self.refused(InvalidStep, beyond(1, 30), lambda value: told_clearing(PARTS, value, 0))
        self.refused(InvalidRest, beyond(0, 4) + [5], lambda value: told_clearing(PARTS, 5, value))
        self.told(InvalidProduct, {"value": None}, told_clearing, None, 0, -1)
        self.told(InvalidStep, {"value": 31}, told_clearing, PARTS, 31, 31)
        self.told(InvalidRest, {"value": 6}, told_clearing, PARTS, 6, 6)


if __name__ == "__main__":
    unittest.main()
