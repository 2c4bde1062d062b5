import unittest
from fractions import Fraction

from asking import NOT_INTEGERS, WRONG_RATIOS, Asking, great, pair

from etaparts.errors import DividedByNought, InvalidNumber, InvalidRatio
from etaparts.ratios import added, compared, divided, is_ratio, less, ratio_of, square_free, times

SMALL = [(n, u) for u in range(1, 7) for n in range(-9, 10) if Fraction(n, u).denominator == u]


class TestIsRatio(Asking):
    def test_is_ratio(self):
        right = SMALL + [(0, 1), (-1, 1), (10 ** 29, 1), (1, 10 ** 29), (-10 ** 29, 7)]
        self.only_for(is_ratio, right, WRONG_RATIOS)


class TestRatioOf(Asking):
    def test_ratio_of(self):
        for first in range(-12, 13):
            for second in range(-12, 13):
                if second != 0:
                    self.same(ratio_of(first, second), pair(Fraction(first, second)))
        self.same(ratio_of(0, -7), (0, 1))
        self.same(ratio_of(-10 ** 29, -10 ** 28), (10, 1))

    def test_wrong_values(self):
        self.refused(InvalidNumber, NOT_INTEGERS, lambda value: ratio_of(value, 1))
        self.refused(InvalidNumber, NOT_INTEGERS, lambda value: ratio_of(1, value))
        self.told(InvalidNumber, {"value": None}, ratio_of, None, True)
        self.told(InvalidNumber, {"value": None}, ratio_of, None, 0)
        self.told(InvalidNumber, {"value": False}, ratio_of, 1, False)
        self.told(DividedByNought, {}, ratio_of, 1, 0)
        self.told(DividedByNought, {}, ratio_of, 0, 0)


class TestReckoning(Asking):
    def test_as_fractions(self):
        for one in SMALL:
            for other in SMALL:
                left, right = Fraction(*one), Fraction(*other)
                self.same(added(one, other), pair(left + right))
                self.same(less(one, other), pair(left - right))
                self.same(times(one, other), pair(left * right))
                self.same(compared(one, other), (left > right) - (left < right))
                if other[0] != 0:
                    self.same(divided(one, other), pair(left / right))

    def test_what_comes_out_as_0(self):
        self.same(added((3, 7), (-3, 7)), (0, 1))
        self.same(less((-5, 3), (-5, 3)), (0, 1))
        self.same(times((0, 1), (-5, 3)), (0, 1))
        self.same(divided((0, 1), (-5, 3)), (0, 1))

    def test_divided_by_nought(self):
        self.told(DividedByNought, {}, divided, (1, 2), (0, 1))
        self.told(DividedByNought, {}, divided, (0, 1), (0, 1))
        self.told(InvalidRatio, {"value": (2, 4)}, divided, (2, 4), (0, 1))
        self.told(InvalidRatio, {"value": (0, 2)}, divided, (1, 2), (0, 2))

    def test_wrong_values(self):
        for call in (added, less, times, divided, compared):
            self.refused(InvalidRatio, WRONG_RATIOS, lambda value: call(value, (1, 2)))
            self.refused(InvalidRatio, WRONG_RATIOS, lambda value: call((1, 2), value))
            self.told(InvalidRatio, {"value": (2, 2)}, call, (2, 2), (3, 3))
            self.told(InvalidRatio, {"value": None}, call, None, (3, 3))

    def test_compared_is_by_fractions(self):
        self.same(compared((1, 3), (1, 2)), -1)
        self.same(compared((-1, 2), (-1, 3)), -1)
        self.same(compared((7, 3), (2, 1)), 1)
        self.same(compared((10 ** 29, 10 ** 29 - 1), (10 ** 29 + 1, 10 ** 29)), 1)
        self.same(compared((10 ** 29, 1), (10 ** 29, 1)), 0)


class TestDigits(Asking):
    def test_400_digits_are_told(self):
        huge = times(great(19), (10 ** 19, 1))
        self.assertEqual(huge, (10 ** 399, 1))
        self.assertEqual(times(huge, (9, 1)), (9 * 10 ** 399, 1))
        self.assertEqual(times(huge, (-9, 1)), (-9 * 10 ** 399, 1))
        self.assertEqual(added(times(huge, (9, 1)), less(huge, (1, 1))), (10 ** 400 - 1, 1))
        self.assertEqual(divided((1, 1), huge), (1, 10 ** 399))
        self.assertTrue(is_ratio(huge) and is_ratio(divided((-1, 1), huge)))
        self.assertEqual((compared(huge, (1, 1)), compared((1, 1), huge), compared(huge, huge)), (1, -1, 0))

    def test_what_is_long_on_the_way_alone(self):
        huge = times(great(19), (10 ** 19, 1))
        self.same(divided(huge, huge), (1, 1))
        self.same(times(huge, divided((1, 1), huge)), (1, 1))
        self.same(less(huge, huge), (0, 1))
        self.same(compared(divided((1, 1), huge), huge), -1)
        self.assertEqual(added(divided((1, 1), huge), divided((1, 1), huge)), (1, 10 ** 399 // 2))

    def test_more_than_400_digits(self):
        huge = times(great(19), (10 ** 19, 1))
        nine = times(huge, (9, 1))
        tiny = divided((1, 1), huge)
        self.too_many("digits", 400, times, huge, (10, 1))
        self.too_many("digits", 400, times, huge, (-10, 1))
        self.too_many("digits", 400, times, tiny, (1, 10))
        self.too_many("digits", 400, added, nine, huge)
        self.too_many("digits", 400, less, times(nine, (-1, 1)), huge)
        self.too_many("digits", 400, divided, huge, (1, 10))
        self.too_many("digits", 400, divided, tiny, (10, 1))
        self.too_many("digits", 400, divided, tiny, (-10, 1))
        self.too_many("digits", 400, added, tiny, (1, 11))
        self.too_many("digits", 400, less, tiny, (1, 11))

    def test_digits_come_last(self):
        huge = times(great(19), (10 ** 19, 1))
        self.told(InvalidRatio, {"value": (10, 2)}, times, huge, (10, 2))
        self.told(DividedByNought, {}, divided, huge, (0, 1))


class TestSquareFree(Asking):
    def test_square_free(self):
        for ratio in SMALL:
            if ratio[0] == 0:
                continue
            part = square_free(ratio)
            self.assertIs(type(part), int)
            self.assertTrue(all(part % (d * d) for d in range(2, 60)), ratio)
            self.assertEqual(part > 0, ratio[0] > 0)
            square = Fraction(*ratio) / part
            roots = [x for x in range(1, 200) if x * x == square.numerator]
            self.assertTrue(roots and [x for x in range(1, 200) if x * x == square.denominator], ratio)

    def test_ordinary_ones(self):
        found = [square_free(ratio) for ratio in ((1, 1), (-1, 1), (4, 1), (12, 1), (1, 12), (-8, 27), (50, 3), (1, 2))]
        self.assertEqual(found, [1, -1, 1, 3, 3, -6, 6, 2])

    def test_edges(self):
        self.same(square_free((10 ** 6, 1)), 1)
        self.same(square_free((-10 ** 6, 1)), -1)
        self.same(square_free((1, 10 ** 6)), 1)
        self.same(square_free((999983, 10 ** 6)), 999983)
        self.same(square_free((-999983, 999979)), -999983 * 999979)
        self.same(square_free((994009, 1)), 1)

    def test_wrong_values(self):
        wrong = WRONG_RATIOS + [(0, 1), (10 ** 6 + 1, 1), (-10 ** 6 - 1, 1), (1, 10 ** 6 + 1), (10 ** 29, 1)]
        self.refused(InvalidRatio, wrong, square_free)


if __name__ == "__main__":
    unittest.main()
