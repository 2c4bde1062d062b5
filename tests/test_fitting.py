import itertools
import unittest

from asking import PARTS, TWELVE_STEPS, WRONG_LEVELS, WRONG_PRODUCTS, Asking, beyond, product

from etaparts.errors import InvalidLevel, InvalidMany, InvalidProduct, InvalidWeight, NotFitting
from etaparts.fitting import (fits, fitting_power, fitting_products, kind_of, lacks, least_level, products_of_sum,
                              same_kind)
from etaparts.products import is_product, product_power, product_times
from etaparts.ratios import square_free

GREAT, ELEVEN, FOUR = product((1, 24)), product((1, 2), (11, 2)), product((1, -4), (2, 10), (4, -4))
LATE = product((1, 1), (23, 1))
SMALL = [product(*[(step, power) for step, power in zip((1, 2, 3, 6), powers) if power])
         for powers in itertools.product((-4, -3, -1, 0, 1, 2, 6), repeat=4)]
MANY = [product(), PARTS, GREAT, ELEVEN, FOUR, LATE, TWELVE_STEPS, product((1, 60), (60, -60)), product((2, 12)),
        product((60, 24)), product((1, 1), (2, 1), (3, -2)), product((7, 24)), product((8, 3)), product((1, 4), (2, 4))]


def plainly_lacks(one, level):
    """By the words of what fits."""
    found = []
    whole = all(level % step == 0 for step, _ in one[1])
    if not whole:
        found.append("steps")
    if sum(power for _, power in one[1]) % 2:
        found.append("weight")
    if sum(step * power for step, power in one[1]) % 24:
        found.append("shift")
    if whole and sum(level // step * power for step, power in one[1]) % 24:
        found.append("turned")
    return found


class TestLacks(Asking):
    def test_each_word(self):
        self.same(lacks(FOUR, 4), [])
        self.same(lacks(ELEVEN, 5), ["steps"])
        self.same(lacks(product((1, 24), (2, 24), (4, -47)), 4), ["weight", "shift", "turned"])
        self.same(lacks(PARTS, 1), ["weight", "shift", "turned"])
        self.same(lacks(product((8, 3)), 8), ["weight", "turned"])
        self.same(lacks(product((8, 3)), 64), ["weight"])
        self.same(lacks(product((8, 3)), 4), ["steps", "weight"])
        self.same(lacks(product((1, 2)), 12), ["shift"])
        self.same(lacks(product((1, 2)), 1), ["shift", "turned"])
        self.same(lacks(product((2, 12)), 2), ["turned"])
        self.same(lacks(product((5, 2)), 1), ["steps", "shift"])
        self.same(lacks(product((5, 1)), 1), ["steps", "weight", "shift"])
        self.same(lacks(product((1, 1)), 24), ["weight", "shift"])
        self.same(lacks(product(), 1), [])

    def test_all_levels(self):
        seen = []
        for one in MANY + SMALL[::7]:
            for level in range(1, 121):
                found = lacks(one, level)
                self.same(found, plainly_lacks(one, level))
                self.same(fits(one, level), found == [])
                seen.append(tuple(found))
        words = ("steps", "weight", "shift", "turned")
        choices = [tuple(word for word, here in zip(words, row) if here)
                   for row in itertools.product((True, False), repeat=4)]
        # With steps that do not divide nothing is turned.
        for choice in choices:
            self.assertEqual(choice in seen, not ("steps" in choice and "turned" in choice), choice)

    def test_new_lists(self):
        self.new_each_time(lacks, PARTS, 1)
        self.assertIsNot(lacks(FOUR, 4), lacks(FOUR, 4))

    def test_wrong_values(self):
        for call in (lacks, fits, kind_of, fitting_power):
            self.refused(InvalidProduct, WRONG_PRODUCTS, lambda value: call(value, 4))
            self.refused(InvalidLevel, WRONG_LEVELS, lambda value: call(PARTS, value))
            self.told(InvalidProduct, {"value": None}, call, None, 0)
            self.told(InvalidLevel, {"value": True}, call, TWELVE_STEPS, True)


class TestKind(Asking):
    def test_kinds(self):
        self.same(kind_of(ELEVEN, 11), (2, 1))
        self.same(kind_of(FOUR, 4), (1, -1))
        self.same(kind_of(LATE, 23), (1, -23))
        self.same(kind_of(LATE, 46), (1, -23))
        self.same(kind_of(GREAT, 1), (12, 1))
        self.same(kind_of(product(), 1), (0, 1))
        self.same(kind_of(product((1, -24)), 120), (-12, 1))
        self.same(kind_of(product((1, -1), (23, -1)), 23), (-1, -23))
        # Odd powers of 2 and 4, even ones of 1 and 8: what is left is 2, below 0 by an odd weight.
        self.same(kind_of(product((1, -2), (2, 3), (4, 1), (8, 2)), 8), (2, 2))
        self.same(kind_of(product((1, -2), (2, 3), (4, 3), (8, -2)), 8), (1, -2))

    def test_by_the_square_free_part(self):
        fitting = 0
        for one in MANY + SMALL:
            for level in (1, 6, 12, 72):
                if not fits(one, level):
                    self.told(NotFitting, {}, kind_of, one, level)
                    continue
                fitting += 1
                weight, sign = kind_of(one, level)
                self.assertEqual(2 * weight, sum(power for _, power in one[1]))
                steps = 1
                for step, power in one[1]:
                    steps *= step ** (power % 2)
                self.same(sign, square_free(((-1) ** (weight % 2) * steps, 1)))
        self.assertGreater(fitting, 50)

    def test_multiplied_and_inverted(self):
        together = [one for one in SMALL if fits(one, 72)][::3] + [product()]
        self.assertGreater(len(together), 10)
        for one in together:
            weight, sign = kind_of(one, 72)
            self.same(kind_of(product_power(one, -1), 72), (-weight, sign))
            for other in together:
                both = product_times(one, other)
                self.yes(fits(both, 72))
                more, another = kind_of(other, 72)
                self.same(kind_of(both, 72), (weight + more, square_free((sign * another, 1))))
                self.same(same_kind(72, one, other), (weight, sign) == (more, another))

    def test_not_fitting(self):
        self.told(NotFitting, {}, kind_of, PARTS, 1)
        self.told(NotFitting, {}, kind_of, ELEVEN, 5)
        self.told(NotFitting, {}, kind_of, FOUR, 2)
        self.told(NotFitting, {}, kind_of, product((1, 2)), 12)


class TestSameKind(Asking):
    def test_same_kind(self):
        self.yes(same_kind(44, ELEVEN, product((2, 2), (22, 2))))
        self.yes(same_kind(1, GREAT, GREAT))
        self.no(same_kind(1, GREAT, product()))
        self.no(same_kind(1, GREAT, product((1, 48))))
        # One weight, unlike signs.
        self.same([kind_of(one, 92) for one in (LATE, FOUR)], [(1, -23), (1, -1)])
        self.no(same_kind(92, LATE, FOUR))

    def test_not_fitting(self):
        self.told(NotFitting, {}, same_kind, 11, PARTS, ELEVEN)
        self.told(NotFitting, {}, same_kind, 11, ELEVEN, PARTS)
        self.told(NotFitting, {}, same_kind, 5, ELEVEN, ELEVEN)

    def test_wrong_values(self):
        self.refused(InvalidLevel, WRONG_LEVELS, lambda value: same_kind(value, GREAT, GREAT))
        self.refused(InvalidProduct, WRONG_PRODUCTS, lambda value: same_kind(1, value, GREAT))
        self.refused(InvalidProduct, WRONG_PRODUCTS, lambda value: same_kind(1, PARTS, value))
        self.told(InvalidLevel, {"value": 0}, same_kind, 0, None, None)
        self.told(InvalidProduct, {"value": None}, same_kind, 1, None, True)


class TestLeastLevel(Asking):
    def test_against_all_levels(self):
        for one in MANY + SMALL:
            fitting = [level for level in range(1, 121) if fits(one, level)]
            least = least_level(one)
            self.same(least, fitting[0] if fitting else None)
            if least is not None:
                self.assertEqual(fitting, list(range(least, 121, least)))

    def test_known_levels(self):
        self.same([least_level(one) for one in (FOUR, GREAT, PARTS, ELEVEN, LATE, product())], [4, 1, None, 11, 23, 1])

    def test_a_hundred_and_twenty_and_beyond(self):
        self.same(least_level(product((60, 12))), 120)
        self.same(least_level(product((59, 24))), 59)
        self.same(least_level(product((20, 6))), 80)
        self.same(least_level(product((8, 24), (15, 24))), 120)
        # These fit a level beyond: 144, 7 * 18, 11 * 12.
        self.same(least_level(product((12, 2))), None)
        self.same(least_level(product((7, 24), (18, 24))), None)
        self.same(least_level(product((11, 24), (12, 24))), None)

    def test_a_sum_of_nought(self):
        # The sum of level / step times power is 0, so nothing is put on the common multiple of the steps.
        for one, level in ((product((1, 8), (2, -16)), 2), (product((1, -24), (2, 48)), 2), (product((1, -9), (3, 27)), 3)):
            self.assertEqual(sum(level // step * power for step, power in one[1]), 0)
            self.same(least_level(one), level)
        self.same(least_level(product()), 1)

    def test_wrong_values(self):
        self.refused(InvalidProduct, WRONG_PRODUCTS, least_level)


class TestFittingPower(Asking):
    def test_against_all_powers(self):
        for one in MANY + SMALL[::5]:
            for level in (1, 6, 12, 23, 30, 60, 120):
                least = fitting_power(one, level)
                if any(level % step for step, _ in one[1]):
                    self.same(least, None)
                    continue
                self.assertEqual(24 % least, 0)
                for k in range(1, 49):
                    powers = product(*[(step, power * k) for step, power in one[1]])
                    self.assertEqual(plainly_lacks(powers, level) == [], k % least == 0)

    def test_known_powers(self):
        self.same(fitting_power(PARTS, 1), 24)
        self.same(fitting_power(PARTS, 120), 24)
        self.same(fitting_power(product((1, 4), (2, 4)), 2), 2)
        self.same(fitting_power(ELEVEN, 5), None)
        self.same(fitting_power(ELEVEN, 11), 1)
        self.same(fitting_power(product(), 7), 1)
        self.same(fitting_power(product((8, 3)), 64), 2)
        self.same(fitting_power(product((1, 3)), 1), 8)
        self.same(fitting_power(product((1, 8)), 1), 3)


class TestFittingProducts(Asking):
    def test_against_all_choices(self):
        for level, many in ((1, 24), (2, 24), (4, 6), (6, 4), (12, 2), (23, 24), (61, 24), (24, 1), (120, 24)):
            steps = [step for step in range(1, 61) if level % step == 0]
            if (2 * many + 1) ** len(steps) > 200000:
                self.too_many("choices", 200000, fitting_products, level, 0, many)
                continue
            told = {}
            for powers in itertools.product(range(-many, many + 1), repeat=len(steps)):
                one = product(*[(step, power) for step, power in zip(steps, powers) if power])
                if plainly_lacks(one, level) == []:
                    told.setdefault(sum(powers) // 2, []).append(one)
            for weight in range(-30, 31):
                self.same(fitting_products(level, weight, many), sorted(told.get(weight, [])))

    def test_known_lists(self):
        wanted = [product(), product((1, -24), (2, 24)), product((1, 24), (2, -24))]
        self.same(fitting_products(2, 0, 24), wanted)
        self.same(fitting_products(2, 0, 23), [product()])
        self.same(fitting_products(1, 12, 24), [GREAT])
        self.same(fitting_products(1, -12, 24), [product((1, -24))])
        self.same(fitting_products(1, 12, 23), [])
        self.same(fitting_products(1, 30, 24), [])
        self.same(fitting_products(61, 12, 24), [GREAT])
        self.assertIn(FOUR, fitting_products(4, 1, 10))
        self.assertNotIn(FOUR, fitting_products(4, 1, 9))

    def test_choices(self):
        # Eleven divisors to 60 in 3 powers are 177,147 choices; fifteen are more. Three in 49 are 117,649, four more.
        self.too_many("choices", 200000, fitting_products, 120, 0, 1)
        self.too_many("choices", 200000, fitting_products, 60, 0, 1)
        self.too_many("choices", 200000, fitting_products, 6, 0, 24)
        self.assertTrue(all(fits(one, 4) for one in fitting_products(4, 30, 24)))
        # The level 84 has just eleven divisors to 60.
        self.assertEqual(len([step for step in range(1, 61) if 84 % step == 0]), 11)
        for one in fitting_products(84, 1, 1):
            self.yes(is_product(one))
            self.yes(fits(one, 84))
        self.too_many("choices", 200000, fitting_products, 84, 1, 2)

    def test_greatest_lists(self):
        # Within the bound of the choices no level comes near 2,000 products: these two have the most.
        self.assertEqual(len(fitting_products(39, 0, 10)), 535)
        self.assertEqual(len(fitting_products(81, 0, 10)), 529)
        self.assertEqual(len(products_of_sum([1, 3, 13, 39], 10, 0)), 6181)

    def test_new_lists(self):
        self.new_each_time(fitting_products, 2, 0, 24)

    def test_wrong_values(self):
        self.refused(InvalidLevel, WRONG_LEVELS, lambda value: fitting_products(value, 0, 1))
        self.refused(InvalidWeight, beyond(-30, 30), lambda value: fitting_products(1, value, 1))
        self.refused(InvalidMany, beyond(1, 24), lambda value: fitting_products(1, 0, value))
        self.told(InvalidLevel, {"value": None}, fitting_products, None, 31, 0)
        self.told(InvalidWeight, {"value": (2, 1)}, fitting_products, 120, (2, 1), 25)
        self.told(InvalidMany, {"value": 25}, fitting_products, 120, 0, 25)


if __name__ == "__main__":
    unittest.main()
