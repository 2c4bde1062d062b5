import unittest
from functools import lru_cache

from asking import EULER, PARTS, TWELVE_STEPS, WRONG_PRODUCTS, WRONG_ROWS, Asking, beyond, product

from etaparts.errors import (InvalidExponent, InvalidMany, InvalidPlace, InvalidProduct, InvalidRest, InvalidRow,
                             InvalidStep)
from etaparts.series import (first_unlike, number_at, plain_row, product_row, row_at, row_power, rows_added, rows_times,
                             section_of)

GREAT = product((1, 24))
SQUARES = product((1, -2), (2, 5), (4, -2))
MANY = [product(), PARTS, EULER, GREAT, SQUARES, TWELVE_STEPS, product((1, -60)), product((60, 60)), product((60, -60)),
        product((2, 3), (3, -1), (12, 7)), product((7, -1), (49, 1)), product(*[(step, -2) for step in range(1, 13)])]
NUMBERS = [3, -1, 4, -1, 5, -9, 2, 6, -5, 3, 5, -8]


def partition_numbers(many):
    """By Euler's recursion over the pentagonal numbers."""
    row = [1]
    for n in range(1, many):
        total, j = 0, 1
        while j * (3 * j - 1) // 2 <= n:
            sign = 1 if j % 2 else -1
            total += sign * row[n - j * (3 * j - 1) // 2]
            if j * (3 * j + 1) // 2 <= n:
                total += sign * row[n - j * (3 * j + 1) // 2]
            j += 1
        row.append(total)
    return row[:many]


def multiplied(row, other):
    many = min(len(row), len(other))
    return [sum(row[k] * other[n - k] for k in range(n + 1)) for n in range(many)]


@lru_cache(maxsize=None)
def sixty_colours():
    """How many numbers of the product with (1, -60) have at most 400 digits, one behind the other, and the row."""
    many = 3000
    sums = [0] * many
    for d in range(1, many):
        for n in range(d, many, d):
            sums[n] += 60 * d
    row = [1]
    while row[-1] < 10 ** 400:
        n = len(row)
        row.append(sum(sums[k] * row[n - k] for k in range(1, n + 1)) // n)
    return row[:-1]


class TestProductRow(Asking):
    def test_known_numbers(self):
        row = product_row(PARTS, 1001)
        self.assertEqual(row[:11], [1, 1, 2, 3, 5, 7, 11, 15, 22, 30, 42])
        self.assertEqual((row[100], row[200]), (190569292, 3972999029388))
        self.assertEqual(row[1000], 24061467864032622473692149727991)
        self.assertEqual(product_row(GREAT, 7), [1, -24, 252, -1472, 4830, -6048, -16744])
        self.assertEqual(product_row(SQUARES, 11), [1, 2, 0, 0, 2, 0, 0, 0, 0, 2, 0])

    def test_edges(self):
        self.same(product_row(PARTS, 0), [])
        self.same(product_row(PARTS, 1), [1])
        self.same(product_row(product(), 0), [])
        self.same(product_row(product(), 5), [1, 0, 0, 0, 0])
        self.same(product_row(product((60, 60)), 60), [1] + [0] * 59)
        self.same(product_row(product((60, 60)), 61), [1] + [0] * 59 + [-60])
        self.same(product_row(product((60, -60)), 121)[60::60], [60, 1890])
        self.assertEqual(product_row(PARTS, 3000), partition_numbers(3000))
        self.assertEqual(product_row(TWELVE_STEPS, 3000)[:49], [1] + [0] * 48)

    def test_against_the_plain_row(self):
        for one in MANY:
            for many in (0, 1, 2, 30, 200):
                with self.subTest(one=one, many=many):
                    self.assertEqual(product_row(one, many), plain_row(one, many))
                    self.assertEqual(len(plain_row(one, many)), many)

    def test_plain_row_by_multiplying(self):
        for one in MANY:
            row = [1] + [0] * 39
            for step, power in one[1]:
                for j in range(step, 40, step):
                    factor = [1 if n == 0 else -1 if n == j else 0 for n in range(40)]
                    if power < 0:
                        factor = [1 if n % j == 0 else 0 for n in range(40)]
                    for _ in range(abs(power)):
                        row = multiplied(row, factor)
            self.same(plain_row(one, 40), row)

    def test_new_lists(self):
        self.new_each_time(product_row, PARTS, 5)
        self.new_each_time(plain_row, PARTS, 5)

    def test_wrong_values(self):
        for call, most in ((product_row, 3000), (plain_row, 200)):
            self.refused(InvalidProduct, WRONG_PRODUCTS, lambda value: call(value, 2))
            self.refused(InvalidMany, beyond(0, most), lambda value: call(PARTS, value))
            self.told(InvalidProduct, {"value": []}, call, [], -1)
            self.told(InvalidProduct, {"value": "product"}, call, "product", True)
        self.told(InvalidMany, {"value": 3001}, product_row, product((1, -60)), 3001)

    def test_digits(self):
        wanted = sixty_colours()
        self.assertTrue(1000 < len(wanted) < 3000)
        self.assertEqual(product_row(product((1, -60)), len(wanted)), wanted)
        self.too_many("digits", 400, product_row, product((1, -60)), len(wanted) + 1)
        self.too_many("digits", 400, product_row, product((1, -60)), 3000)


class TestNumberAt(Asking):
    def test_numbers(self):
        for one in MANY:
            row = plain_row(one, 40)
            self.assertEqual([number_at(one, place) for place in range(40)], row)
        self.same(number_at(PARTS, 0), 1)
        self.same(number_at(product(), 2999), 0)
        self.assertEqual(number_at(PARTS, 2999), partition_numbers(3000)[2999])

    def test_digits_are_those_of_the_one_number(self):
        wanted = sixty_colours()
        self.assertEqual(number_at(product((1, -60)), len(wanted) - 1), wanted[-1])
        self.too_many("digits", 400, number_at, product((1, -60)), len(wanted))
        self.too_many("digits", 400, number_at, product((1, -60)), 2999)

    def test_wrong_values(self):
        self.refused(InvalidProduct, WRONG_PRODUCTS, lambda value: number_at(value, 2))
        self.refused(InvalidPlace, beyond(0, 2999), lambda value: number_at(PARTS, value))
        self.told(InvalidProduct, {"value": None}, number_at, None, 3000)


class TestRowsTogether(Asking):
    def test_added(self):
        self.same(rows_added([1, 2, 3], [10, 20, 30]), [11, 22, 33])
        self.same(rows_added((1, 2, 3), [10]), [11])
        self.same(rows_added([10], (1, -2)), [11])
        self.same(rows_added([], [1]), [])
        self.same(rows_added([1], []), [])
        self.same(rows_added((), ()), [])
        self.assertEqual(rows_added([1] * 3000, [2] * 3000), [3] * 3000)

    def test_times(self):
        self.same(rows_times([1, 2, 3], [4, 5, 6]), [4, 13, 28])
        self.same(rows_times((1, 2, 3, 4), (1, -1)), [1, 1])
        self.same(rows_times([2], [3, 5]), [6])
        self.same(rows_times([], [1]), [])
        self.same(rows_times([1], ()), [])
        for many in range(12):
            self.assertEqual(rows_times(NUMBERS, NUMBERS[many:]), multiplied(NUMBERS, NUMBERS[many:]))
        row = partition_numbers(3000)
        self.assertEqual(rows_times(row, plain_row(EULER, 200)), [1] + [0] * 199)
        self.assertEqual(rows_times(product_row(EULER, 3000), row), [1] + [0] * 2999)

    def test_nothing_is_changed_and_what_is_told_is_new(self):
        row, other = [1, 2, 3], [4, 5, 6]
        for call in (rows_added, rows_times):
            self.new_each_time(call, row, other)
            self.assertEqual((row, other), ([1, 2, 3], [4, 5, 6]))

    def test_wrong_values(self):
        for call in (rows_added, rows_times, first_unlike):
            self.refused(InvalidRow, WRONG_ROWS, lambda value: call(value, [1]))
            self.refused(InvalidRow, WRONG_ROWS, lambda value: call([1], value))
            self.told(InvalidRow, {"value": None}, call, None, "")
            self.told(InvalidRow, {"value": [1, True]}, call, [], [1, True])

    def test_digits(self):
        most = row_power([10 ** 25 - 1], 16)
        self.assertEqual(most, [(10 ** 25 - 1) ** 16])
        self.too_many("digits", 400, rows_added, most, most)
        self.too_many("digits", 400, rows_times, most, [10])
        self.assertEqual(rows_times(most, [1]), most)
        self.assertEqual(rows_added(most, [-1]), [most[0] - 1])
        below = row_power([-10 ** 26], 15)
        self.assertEqual(below, [-10 ** 390])
        self.assertEqual(rows_times(below, [10 ** 10 - 1]), [-10 ** 400 + 10 ** 390])
        self.too_many("digits", 400, rows_times, below, [10 ** 10])
        self.too_many("digits", 400, rows_times, [1, 10 ** 10], below + [0])
        self.assertEqual(rows_times([0, 1], below + below), [0, -10 ** 390])
        self.told(InvalidRow, {"value": None}, rows_times, most, None)


class TestRowPower(Asking):
    def test_powers(self):
        self.same(row_power([1, -1, -1, 0], 2), [1, -2, -1, 2])
        self.same(row_power([2, 3], 3), [8, 36])
        self.same(row_power((2, 3), 1), [2, 3])
        self.same(row_power([-2, 3], 2), [4, -12])
        self.same(row_power([7], 2), [49])

    def test_edges(self):
        self.same(row_power([5, 6, 7], 0), [1, 0, 0])
        self.same(row_power([0, 0], 0), [1, 0])
        self.same(row_power([], 0), [])
        self.same(row_power([], 60), [])
        self.same(row_power([0, 0, 0], 1), [0, 0, 0])
        self.same(row_power([0, 0, 0], 60), [0, 0, 0])
        self.same(row_power([0, 2, 3, 5], 2), [0, 0, 4, 12])
        self.same(row_power([0, 0, 1], 2), [0, 0, 0])
        self.same(row_power([0, 1] + [0] * 59, 60), [0] * 60 + [1])
        self.same(row_power([0, 1] + [0] * 58, 60), [0] * 60)
        self.same(row_power([1, 1], 60), [1, 60])
        self.same(row_power([1], 60), [1])

    def test_against_products(self):
        for row in (NUMBERS, NUMBERS[1:], [0] + NUMBERS, [0, 0] + NUMBERS[3:], [2, 0, 0, 5, 1, -7], [-1, 2, 0, 4]):
            together = [1] + [0] * (len(row) - 1)
            for exponent in range(13):
                self.same(row_power(row, exponent), together)
                together = multiplied(together, row)
        self.assertEqual(row_power(product_row(EULER, 3000), 24), product_row(GREAT, 3000))
        self.assertEqual(row_power(product_row(PARTS, 100), 60), product_row(product((1, -60)), 100))

    def test_nothing_is_changed_and_what_is_told_is_new(self):
        row = [1, 2, 3]
        for exponent in (0, 1, 2):
            self.new_each_time(row_power, row, exponent)
        self.assertEqual(row, [1, 2, 3])

    def test_wrong_values(self):
        self.refused(InvalidRow, WRONG_ROWS, lambda value: row_power(value, 2))
        self.refused(InvalidExponent, beyond(0, 60), lambda value: row_power([1, 2], value))
        self.told(InvalidRow, {"value": "1"}, row_power, "1", 61)
        self.told(InvalidExponent, {"value": -1}, row_power, [], -1)

    def test_digits(self):
        self.too_many("digits", 400, row_power, [10 ** 25], 16)
        self.too_many("digits", 400, row_power, [-10 ** 25], 16)
        self.assertEqual(row_power([10 ** 25], 15), [10 ** 375])
        self.too_many("digits", 400, row_power, [0, -10 ** 27] + [0] * 60, 15)
        self.assertEqual(row_power([0, 10 ** 29, 0], 3), [0, 0, 0])
        self.too_many("digits", 400, row_power, product_row(product((1, -60)), len(sixty_colours())), 2)


class TestRowAt(Asking):
    def test_spread(self):
        self.same(row_at([1, 2, 3], 1, 3), [1, 2, 3])
        self.same(row_at((1, 2, 3), 1, 2), [1, 2])
        self.same(row_at([1, 2, 3], 4, 9), [1, 0, 0, 0, 2, 0, 0, 0, 3])
        self.same(row_at([1, 2, 3], 4, 12), [1, 0, 0, 0, 2, 0, 0, 0, 3, 0, 0, 0])
        self.same(row_at([1, 2], 60, 61), [1] + [0] * 59 + [2])
        self.same(row_at([1, 2], 2, 0), [])
        self.same(row_at([], 2, 0), [])
        self.assertEqual(row_at([1] * 50, 60, 3000), ([1] + [0] * 59) * 50)

    def test_too_many_places(self):
        self.too_many("places", 3000, row_at, [1, 2, 3], 4, 13)
        self.too_many("places", 3000, row_at, [], 60, 1)
        self.too_many("places", 3000, row_at, [1], 1, 2)
        self.too_many("places", 3000, row_at, [1] * 49, 60, 3000)

    def test_nothing_is_changed_and_what_is_told_is_new(self):
        row = [1, 2, 3]
        self.new_each_time(row_at, row, 1, 3)
        self.new_each_time(row_at, row, 2, 6)
        self.assertEqual(row, [1, 2, 3])

    def test_wrong_values(self):
        self.refused(InvalidRow, WRONG_ROWS, lambda value: row_at(value, 2, 1))
        self.refused(InvalidStep, beyond(1, 60) + [-1], lambda value: row_at([1, 2], value, 1))
        self.refused(InvalidMany, beyond(0, 3000), lambda value: row_at([1, 2], 2, value))
        self.told(InvalidRow, {"value": {}}, row_at, {}, 0, -1)
        self.told(InvalidStep, {"value": 0}, row_at, [], 0, -1)
        self.told(InvalidMany, {"value": 3001}, row_at, [], 1, 3001)


class TestSection(Asking):
    def test_sections(self):
        for m in range(1, 31):
            for t in range(m):
                self.same(section_of(NUMBERS, m, t), [NUMBERS[k] for k in range(t, 12, m)])
        self.same(section_of((1, 2, 3), 2, 1), [2])
        self.same(section_of([1, 2], 30, 29), [])
        self.same(section_of([], 1, 0), [])
        self.same(section_of([1, 2, 3], 1, 0), [1, 2, 3])

    def test_nothing_is_changed_and_what_is_told_is_new(self):
        row = [1, 2, 3]
        self.new_each_time(section_of, row, 1, 0)
        found = section_of(row, 1, 0)
        found.append(4)
        self.assertEqual(row, [1, 2, 3])

    def test_wrong_values(self):
        self.refused(InvalidRow, WRONG_ROWS, lambda value: section_of(value, 2, 1))
        self.refused(InvalidStep, beyond(1, 30) + [-1], lambda value: section_of([1, 2], value, 0))
        self.refused(InvalidRest, beyond(0, 4), lambda value: section_of([1, 2], 5, value))
        self.refused(InvalidRest, [1, 30, -1], lambda value: section_of([1, 2], 1, value))
        self.told(InvalidRow, {"value": None}, section_of, None, 0, -1)
        self.told(InvalidStep, {"value": 31}, section_of, [], 31, 31)


class TestFirstUnlike(Asking):
    def test_first_unlike(self):
        self.same(first_unlike([1, 2, 3], [1, 2, 4]), 2)
        self.same(first_unlike([1, 2, 3], (0, 2, 4)), 0)
        self.same(first_unlike((1, 2, 3), [1, 2, 3, 4]), None)
        self.same(first_unlike([1, 2, 3, 4], [1, 2, 3]), None)
        self.same(first_unlike([], [1]), None)
        self.same(first_unlike([], []), None)
        self.same(first_unlike([0] * 3000, [0] * 2999 + [1]), 2999)
        self.same(first_unlike([1, -1, 5], [1, 1, 6]), 1)


if __name__ == "__main__":
    unittest.main()
