import itertools
import unittest

from asking import WRONG_FORMS, Asking, beyond, great, squares

from etaparts.errors import InvalidForm, InvalidNumber, InvalidRow
from etaparts.ratios import times
from etaparts.squares import is_form, plain_ways, rows_of, value_of, ways

TWO, FOUR, EIGHT = squares(1, 1), squares(1, 1, 1, 1), squares(*[1] * 8)
MIXED = [squares(1), squares(12), squares(1, 12), squares(1, 2), squares(2, 3, 7), squares(1, 1, 2, 5), squares(5, 5, 5),
         squares(1, 2, 3, 4, 5), TWO, FOUR, squares(12, 12), squares(6, 10)]


def tried(form, number):
    """All rows of numbers to the number's size, each one looked at."""
    weights = form[1]
    reach = range(-number, number + 1)
    return [row for row in itertools.product(reach, repeat=len(weights))
            if sum(w * x * x for w, x in zip(weights, row)) == number]


class TestIsForm(Asking):
    def test_is_form(self):
        right = MIXED + [EIGHT, squares(*[12] * 8), squares(1, 2, 3, 4, 5, 6, 7, 8), squares(5, 6, 7, 8, 9, 10, 11, 12)]
        self.only_for(is_form, right, WRONG_FORMS)


class TestValue(Asking):
    def test_value_of(self):
        self.same(value_of(squares(1, 2), [1, -1]), 3)
        self.same(value_of(squares(1, 2), (1, -1)), 3)
        self.same(value_of(squares(3), [-7]), 147)
        self.same(value_of(squares(1, 2, 12), [5, -3, 2]), 25 + 18 + 48)
        self.same(value_of(EIGHT, [0] * 8), 0)
        self.same(value_of(EIGHT, list(range(-4, 4))), 44)
        self.same(value_of(squares(12), (10 ** 29,)), 12 * 10 ** 58)

    def test_wrong_values(self):
        self.refused(InvalidForm, WRONG_FORMS, lambda value: value_of(value, [1]))
        wrong = [True, None, 0, 1, "", "11", b"11", {}, {0: 1, 1: 1}, {1, 2}, object(), [], [1], [1, 2, 3], (1,), ((1, 2),),
                 [1, True], [False, 1], (True, True), [1, None], ["1", 1], [1, [1]], [(1,), 1], (1, (True,)), [[1, 1]]]
        self.refused(InvalidRow, wrong, lambda value: value_of(TWO, value))
        self.told(InvalidForm, {"value": squares()}, value_of, squares(), [True])
        self.told(InvalidRow, {"value": [1] * 9}, value_of, EIGHT, [1] * 9)

    def test_digits(self):
        # 200 digits behind the first one: the square of the number has 401.
        long = great(10)[0]
        self.assertEqual(long, 10 ** 200)
        self.too_many("digits", 400, value_of, TWO, [long, 0])
        self.too_many("digits", 400, value_of, TWO, [0, -long])
        lesser = times(great(10), (1, 10))[0]
        self.same(value_of(TWO, [lesser, 1]), 10 ** 398 + 1)
        self.same(value_of(squares(12), [lesser]), 12 * 10 ** 398)
        self.told(InvalidRow, {"value": [long]}, value_of, TWO, [long])


class TestWays(Asking):
    def test_both_ways_and_the_rows(self):
        for form in MIXED:
            for number in range(0, 31):
                rows = rows_of(form, number)
                self.same(ways(form, number), len(rows))
                self.same(plain_ways(form, number), len(rows))
                self.assertEqual(rows, sorted(set(rows)))
                for row in rows:
                    self.same(value_of(form, row), number)

    def test_against_all_rows(self):
        for form in (squares(1), squares(12), TWO, squares(1, 2), squares(2, 3, 7), squares(1, 1, 1)):
            for number in range(0, 13):
                self.same(rows_of(form, number), tried(form, number))

    def test_each_sign_and_each_sequence(self):
        self.same(rows_of(TWO, 1), [(-1, 0), (0, -1), (0, 1), (1, 0)])
        self.same(rows_of(TWO, 5), [(-2, -1), (-2, 1), (-1, -2), (-1, 2), (1, -2), (1, 2), (2, -1), (2, 1)])
        self.same(rows_of(squares(1, 2), 3), [(-1, -1), (-1, 1), (1, -1), (1, 1)])
        self.same([ways(TWO, n) for n in range(11)], [1, 4, 4, 0, 4, 8, 0, 0, 4, 4, 8])

    def test_nought_and_the_greatest_number(self):
        for form in MIXED + [EIGHT, squares(*[12] * 8)]:
            self.same(ways(form, 0), 1)
            self.same(plain_ways(form, 0), 1)
            self.same(rows_of(form, 0), [(0,) * len(form[1])])
        # By Jacobi: eight times the divisors that 4 does not divide; 16 times the sum of (-1)^(n + d) d^3.
        divisors = [d for d in range(1, 3001) if 3000 % d == 0]
        self.same(ways(FOUR, 3000), 8 * sum(d for d in divisors if d % 4))
        self.same(plain_ways(FOUR, 300), 8 * sum(d for d in range(1, 301) if 300 % d == 0 and d % 4))
        self.same(ways(EIGHT, 3000), 16 * sum((-1) ** d * d ** 3 for d in divisors))
        self.same(plain_ways(EIGHT, 12), 16 * sum((-1) ** d * d ** 3 for d in (1, 2, 3, 4, 6, 12)))
        self.same(ways(squares(12), 3000), 0)
        self.same(plain_ways(squares(12), 3000), 0)
        self.same(rows_of(squares(12), 3000), [])
        self.same(rows_of(squares(12), 2700), [(-15,), (15,)])
        self.same(rows_of(squares(12), 2699), [])
        self.same(plain_ways(TWO, 3000), ways(TWO, 3000))

    def test_two_thousand_rows_and_more(self):
        five = squares(1, 1, 1, 1, 1)
        self.same(ways(five, 26), 2000)
        self.assertEqual(len(rows_of(five, 26)), 2000)
        self.assertEqual(len(rows_of(squares(4, 4, 4, 4, 4), 104)), 2000)
        self.assertEqual(len(rows_of(EIGHT, 4)), 1136)
        self.same(ways(EIGHT, 5), 2016)
        self.too_many("rows", 2000, rows_of, EIGHT, 5)
        self.too_many("rows", 2000, rows_of, EIGHT, 3000)
        self.same(ways(squares(1, 2, 3, 4, 4), 162), 2002)
        self.too_many("rows", 2000, rows_of, squares(1, 2, 3, 4, 4), 162)

    def test_few_ways_among_many_dead_ends(self):
        self.same(rows_of(squares(*[12] * 8), 2999), [])
        self.same(rows_of(squares(*[12] * 7), 12), rows_of(squares(*[1] * 7), 1))
        self.assertEqual(len(rows_of(squares(1, 12, 12, 12, 12, 12, 12, 12), 25)), 2 * 1 + 2 * 84)

    def test_new_lists(self):
        self.new_each_time(rows_of, TWO, 5)

    def test_wrong_values(self):
        for call in (ways, plain_ways, rows_of):
            self.refused(InvalidForm, WRONG_FORMS, lambda value: call(value, 1))
            self.refused(InvalidNumber, beyond(0, 3000), lambda value: call(squares(12), value))
            self.told(InvalidForm, {"value": None}, call, None, -1)
            self.told(InvalidForm, {"value": squares(2, 1)}, call, squares(2, 1), True)
            self.told(InvalidNumber, {"value": 3001}, call, EIGHT, 3001)


if __name__ == "__main__":
    unittest.main()
