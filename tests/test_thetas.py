import itertools
import unittest

from asking import WRONG_FORMS, Asking, beyond, product, squares

from etaparts.errors import InvalidForm, InvalidMany
from etaparts.levels import shift_of, weight_of
from etaparts.products import is_product
from etaparts.series import product_row, rows_times
from etaparts.squares import ways
from etaparts.thetas import first_unlike_ways, form_product, gaps, joined, same_ways, ways_row

ONE, TWO, THREE, FOUR, EIGHT = [squares(*[1] * many) for many in (1, 2, 3, 4, 8)]
MIXED = [ONE, TWO, THREE, FOUR, EIGHT, squares(12), squares(1, 2), squares(1, 2, 4, 8), squares(3, 6, 12), squares(2, 5),
         squares(1, 1, 2, 3, 4, 6, 8, 12), squares(12, 12, 12, 12, 12, 12, 12, 12), squares(1, 2, 3)]


class TestWaysRow(Asking):
    def test_row_of_ways(self):
        for form in MIXED:
            self.same(ways_row(form, 40), [ways(form, number) for number in range(40)])
        self.same(ways_row(ONE, 10), [1, 2, 0, 0, 2, 0, 0, 0, 0, 2])
        self.same(ways_row(squares(12), 14), [1] + [0] * 11 + [2, 0])

    def test_edges(self):
        for form in MIXED:
            self.same(ways_row(form, 0), [])
            self.same(ways_row(form, 1), [1])
        row = ways_row(EIGHT, 3000)
        self.assertEqual(len(row), 3000)
        self.assertEqual(row[2999], 16 * (1 + 2999 ** 3))
        self.assertEqual(ways_row(squares(*[12] * 8), 3000)[::12], ways_row(EIGHT, 250))

    def test_is_the_row_of_the_product(self):
        for form in MIXED:
            self.same(ways_row(form, 300), product_row(form_product(form), 300))
        self.same(ways_row(FOUR, 3000), product_row(form_product(FOUR), 3000))

    def test_new_lists(self):
        self.new_each_time(ways_row, TWO, 5)

    def test_wrong_values(self):
        for call in (ways_row, gaps):
            self.refused(InvalidForm, WRONG_FORMS, lambda value: call(value, 1))
            self.refused(InvalidMany, beyond(0, 3000), lambda value: call(squares(12), value))
            self.told(InvalidForm, {"value": None}, call, None, -1)
            self.told(InvalidMany, {"value": 3001}, call, EIGHT, 3001)


class TestGaps(Asking):
    def test_gaps(self):
        for form in MIXED:
            row = ways_row(form, 200)
            self.same(gaps(form, 200), [number for number in range(200) if row[number] == 0])
            self.same(gaps(form, 0), [])
            self.same(gaps(form, 1), [])
        self.same(gaps(TWO, 8), [3, 6, 7])
        self.same(gaps(TWO, 7), [3, 6])
        self.same(gaps(squares(12), 5), [1, 2, 3, 4])

    def test_four_three_and_two_squares(self):
        self.same(gaps(FOUR, 3000), [])
        self.same(gaps(EIGHT, 3000), [])
        told = sorted(4 ** a * (8 * b + 7) for a in range(6) for b in range(375) if 4 ** a * (8 * b + 7) < 3000)
        self.same(gaps(THREE, 3000), told)
        self.same(gaps(TWO, 3000), [number for number in range(3000) if is_lonely(number)])

    def test_new_lists(self):
        self.new_each_time(gaps, TWO, 8)


def is_lonely(number):
    """Whether a prime that leaves 3 by 4 stands in it an odd number of times."""
    prime = 2
    while number > 0 and prime <= number:
        often = 0
        while number % prime == 0:
            number //= prime
            often += 1
        if prime % 4 == 3 and often % 2 == 1:
            return True
        prime += 1
    return False


class TestFormProduct(Asking):
    def test_form_product(self):
        self.same(form_product(ONE), product((1, -2), (2, 5), (4, -2)))
        self.same(form_product(EIGHT), product((1, -16), (2, 40), (4, -16)))
        self.same(form_product(squares(12)), product((12, -2), (24, 5), (48, -2)))
        self.same(form_product(squares(1, 2)), product((1, -2), (2, 3), (4, 3), (8, -2)))
        self.same(form_product(squares(1, 2, 4)), product((1, -2), (2, 3), (4, 1), (8, 3), (16, -2)))
        # At the step 4 five times -2 and twice 5 come to 0, which is left out.
        self.same(form_product(squares(1, 1, 1, 1, 1, 2, 2)), product((1, -10), (2, 21), (8, -4)))

    def test_shift_and_weight(self):
        for form in MIXED:
            found = form_product(form)
            self.yes(is_product(found))
            self.same(shift_of(found), (0, 1))
            many = len(form[1])
            self.same(weight_of(found), (many, 2) if many % 2 else (many // 2, 1))

    def test_twelve_steps_and_more(self):
        twelve = form_product(squares(1, 3, 5, 7))
        self.assertEqual([step for step, _ in twelve[1]], [1, 2, 3, 4, 5, 6, 7, 10, 12, 14, 20, 28])
        self.too_many("steps", 12, form_product, squares(1, 3, 5, 7, 8))
        self.too_many("steps", 12, form_product, squares(1, 3, 5, 7, 9, 11))
        self.too_many("steps", 12, form_product, squares(5, 6, 7, 8, 9, 10, 11, 12))
        for form in itertools.combinations_with_replacement(range(1, 13), 4):
            steps = {}
            for weight in form:
                for step, power in ((weight, -2), (2 * weight, 5), (4 * weight, -2)):
                    steps[step] = steps.get(step, 0) + power
            told = product(*[(step, steps[step]) for step in sorted(steps) if steps[step]])
            self.assertEqual(form_product(squares(*form)), told)

    def test_wrong_values(self):
        self.refused(InvalidForm, WRONG_FORMS, form_product)


class TestJoined(Asking):
    def test_joined(self):
        self.same(joined(TWO, squares(2)), squares(1, 1, 2))
        self.same(joined(squares(2, 5), squares(1, 5, 12)), squares(1, 2, 5, 5, 12))
        self.same(joined(squares(12), ONE), squares(1, 12))
        for form in MIXED:
            for other in MIXED:
                if len(form[1]) + len(other[1]) <= 8:
                    self.same(joined(form, other), joined(other, form))
                    both = rows_times(ways_row(form, 60), ways_row(other, 60))
                    self.same(ways_row(joined(form, other), 60), both)

    def test_eight_and_nine_weights(self):
        self.same(joined(FOUR, FOUR), EIGHT)
        self.same(joined(squares(*[12] * 7), ONE), squares(1, *[12] * 7))
        self.too_many("weights", 8, joined, EIGHT, ONE)
        self.too_many("weights", 8, joined, ONE, EIGHT)
        self.too_many("weights", 8, joined, FOUR, squares(1, 2, 3, 4, 5))
        self.too_many("weights", 8, joined, EIGHT, EIGHT)

    def test_wrong_values(self):
        both_forms_are_asked(self, joined)


def both_forms_are_asked(case, call):
    case.refused(InvalidForm, WRONG_FORMS, lambda value: call(value, ONE))
    case.refused(InvalidForm, WRONG_FORMS, lambda value: call(EIGHT, value))
    case.told(InvalidForm, {"value": squares()}, call, squares(), None)


class TestSameWays(Asking):
    def test_the_same_exactly_if_equal(self):
        forms = [squares(*weights) for many in range(1, 4) for weights in
                 itertools.combinations_with_replacement((1, 2, 3, 5, 12), many)]
        rows = {form: ways_row(form, 13) for form in forms}
        for form in forms:
            for other in forms:
                unlike = [n for n in range(13) if rows[form][n] != rows[other][n]]
                self.same(first_unlike_ways(form, other), unlike[0] if unlike else None)
                self.same(same_ways(form, other), form == other)

    def test_edges(self):
        self.same(first_unlike_ways(squares(1, 1, 2), squares(1, 2, 2)), 1)
        self.same(first_unlike_ways(squares(1, 2, 12), squares(1, 2)), 12)
        self.same(first_unlike_ways(squares(1, 2), squares(1, 2, 12)), 12)
        self.same(first_unlike_ways(squares(*[12] * 8), squares(*[12] * 7)), 12)
        self.same(first_unlike_ways(EIGHT, squares(*[1] * 8)), None)
        self.no(same_ways(EIGHT, FOUR))
        self.yes(same_ways(squares(12), squares(12)))

    def test_wrong_values(self):
        both_forms_are_asked(self, same_ways)
        both_forms_are_asked(self, first_unlike_ways)


if __name__ == "__main__":
    unittest.main()
