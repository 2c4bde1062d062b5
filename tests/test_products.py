import unittest

from asking import EULER, PARTS, TWELVE_STEPS, WRONG_PRODUCTS, Asking, beyond, product

from etaparts.errors import InvalidExponent, InvalidProduct, InvalidStep
from etaparts.products import is_product, parting_place, product_at, product_power, product_times
from etaparts.series import product_row, row_at, row_power, rows_times

BOTH = product((1, 1), (2, 3))
MANY = [product(), PARTS, EULER, BOTH, product((1, -2), (2, 5), (4, -2)), product((3, -4), (60, 30)), product((2, -3)),
        product((1, 24)), product((1, 2), (11, 2)), product((5, 1), (7, -1))]


class TestIsProduct(Asking):
    def test_is_product(self):
        right = MANY + [TWELVE_STEPS, product((60, -60)), product((1, 60)), product((60, 1)), product((1, -60), (60, 60))]
        self.only_for(is_product, right, WRONG_PRODUCTS)

    def test_twelve_steps_and_no_more(self):
        self.yes(is_product(product(*[(step, 1) for step in range(1, 13)])))
        self.no(is_product(product(*[(step, 1) for step in range(1, 14)])))


class TestTimes(Asking):
    def test_powers_are_added(self):
        self.same(product_times(PARTS, EULER), product())
        self.same(product_times(product(), BOTH), BOTH)
        self.same(product_times(BOTH, product()), BOTH)
        self.same(product_times(product((2, 1), (5, -1)), product((1, 3), (5, 1), (7, 2))), product((1, 3), (2, 1), (7, 2)))
        self.same(product_times(product((1, 30)), product((1, 30))), product((1, 60)))
        self.same(product_times(product((9, -30)), product((9, -30))), product((9, -60)))

    def test_their_numbers(self):
        for one in MANY:
            for other in MANY:
                together = product_row(product_times(one, other), 40)
                self.assertEqual(together, rows_times(product_row(one, 40), product_row(other, 40)))

    def test_too_many(self):
        low, high = product(*[(s, 1) for s in range(1, 8)]), product(*[(s, 1) for s in range(7, 13)])
        self.same(product_times(low, high), product(*[(s, 2 if s == 7 else 1) for s in range(1, 13)]))
        self.too_many("steps", 12, product_times, low, product(*[(s, 1) for s in range(8, 14)]))
        self.too_many("powers", 60, product_times, product((1, 60)), product((1, 1)))
        self.too_many("powers", 60, product_times, product((1, -60)), product((1, -1)))
        # Too many steps and too great powers: the steps are told first.
        self.too_many("steps", 12, product_times, TWELVE_STEPS, product((1, 1), (49, 1)))
        # A step whose power comes out 0 is no step.
        self.same(product_times(TWELVE_STEPS, product((1, 1), (49, -60))), product((1, 1), *TWELVE_STEPS[1][1:]))

    def test_wrong_values(self):
        self.refused(InvalidProduct, WRONG_PRODUCTS, lambda value: product_times(value, PARTS))
        self.refused(InvalidProduct, WRONG_PRODUCTS, lambda value: product_times(PARTS, value))
        self.told(InvalidProduct, {"value": None}, product_times, None, True)
        self.told(InvalidProduct, {"value": product((1, 61))}, product_times, TWELVE_STEPS, product((1, 61)))


class TestPower(Asking):
    def test_powers_so_many_times(self):
        self.same(product_power(BOTH, 3), product((1, 3), (2, 9)))
        self.same(product_power(BOTH, 1), BOTH)
        self.same(product_power(BOTH, 0), product())
        self.same(product_power(BOTH, -1), product((1, -1), (2, -3)))
        self.same(product_power(PARTS, 60), product((1, -60)))
        self.same(product_power(PARTS, -60), product((1, 60)))
        self.same(product_power(product((60, 60)), -1), product((60, -60)))
        self.same(product_power(product(), 60), product())
        self.same(product_power(TWELVE_STEPS, 0), product())

    def test_their_numbers(self):
        for one in MANY:
            row = product_row(one, 30)
            for exponent in range(-1, 4):
                if all(abs(power * exponent) <= 60 for _, power in one[1]):
                    found = product_row(product_power(one, exponent), 30)
                    if exponent < 0:
                        self.assertEqual(rows_times(found, row), [1] + [0] * 29)
                    else:
                        self.assertEqual(found, row_power(row, exponent))

    def test_too_many(self):
        self.too_many("powers", 60, product_power, BOTH, 21)
        self.same(product_power(BOTH, 20), product((1, 20), (2, 60)))
        self.same(product_power(BOTH, -20), product((1, -20), (2, -60)))
        self.too_many("powers", 60, product_power, BOTH, -21)
        self.too_many("powers", 60, product_power, TWELVE_STEPS, 2)
        self.too_many("powers", 60, product_power, product((1, 60)), -60)

    def test_wrong_values(self):
        self.refused(InvalidProduct, WRONG_PRODUCTS, lambda value: product_power(value, 2))
        self.refused(InvalidExponent, beyond(-60, 60), lambda value: product_power(PARTS, value))
        self.told(InvalidProduct, {"value": ()}, product_power, (), 61)
        self.told(InvalidExponent, {"value": 61}, product_power, TWELVE_STEPS, 61)


class TestAt(Asking):
    def test_steps_so_great(self):
        self.same(product_at(BOTH, 1), BOTH)
        self.same(product_at(BOTH, 30), product((30, 1), (60, 3)))
        self.same(product_at(PARTS, 60), product((60, -1)))
        self.same(product_at(product(), 60), product())

    def test_their_numbers(self):
        for one in MANY:
            for d in (1, 2, 5):
                if all(step * d <= 60 for step, _ in one[1]):
                    self.assertEqual(product_row(product_at(one, d), 40), row_at(product_row(one, 40), d, 40))

    def test_too_many(self):
        self.too_many("step", 60, product_at, BOTH, 31)
        self.too_many("step", 60, product_at, product((60, 1)), 2)
        self.too_many("step", 60, product_at, TWELVE_STEPS, 60)

    def test_wrong_values(self):
        self.refused(InvalidProduct, WRONG_PRODUCTS, lambda value: product_at(value, 2))
        self.refused(InvalidStep, beyond(1, 60) + [-1], lambda value: product_at(PARTS, value))
        self.told(InvalidProduct, {"value": None}, product_at, None, 0)
        self.told(InvalidStep, {"value": 61}, product_at, TWELVE_STEPS, 61)


class TestPartingPlace(Asking):
    def test_least_step_with_unlike_powers(self):
        self.same(parting_place(PARTS, EULER), 1)
        self.same(parting_place(product((7, 2)), product((3, 1), (7, 2))), 3)
        self.same(parting_place(product((3, 1), (7, 2)), product((7, 2))), 3)
        self.same(parting_place(product(), product((60, 1))), 60)
        self.same(parting_place(product((60, 1)), product((60, 2))), 60)
        self.same(parting_place(product(), product()), None)
        self.same(parting_place(TWELVE_STEPS, product(*TWELVE_STEPS[1])), None)
        self.same(parting_place(TWELVE_STEPS, product(*TWELVE_STEPS[1][:-1])), 60)

    def test_against_the_rows(self):
        for one in MANY:
            for other in MANY:
                rows = list(zip(product_row(one, 70), product_row(other, 70)))
                unlike = [place for place in range(70) if rows[place][0] != rows[place][1]]
                self.same(parting_place(one, other), unlike[0] if unlike else None)
                if unlike:
                    left, right = rows[unlike[0]]
                    powers, others = dict(one[1]), dict(other[1])
                    self.assertEqual(left - right, others.get(unlike[0], 0) - powers.get(unlike[0], 0))

    def test_wrong_values(self):
        self.refused(InvalidProduct, WRONG_PRODUCTS, lambda value: parting_place(value, PARTS))
        self.refused(InvalidProduct, WRONG_PRODUCTS, lambda value: parting_place(PARTS, value))
        self.told(InvalidProduct, {"value": 1}, parting_place, 1, 2)


if __name__ == "__main__":
    unittest.main()
