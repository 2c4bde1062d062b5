import unittest
from math import gcd

from asking import NOT_TUPLES, PARTS, WRONG_PRODUCTS, Asking, beyond, product
from dividing_plainly import MANY, PAIRS, TAU, THREES

from etaparts.clearing import told_clearing
from etaparts.dividing import decided_dividing, is_dividing
from etaparts.errors import InvalidDivisor, InvalidMost, InvalidProduct, InvalidRest, InvalidSection, InvalidStep, TooMany
from etaparts.orbits import orbit, orbits
from etaparts.searching import all_dividing, divisors_told, first_dividing, follows, greatest_divisor, least_dividing
from etaparts.series import product_row
from etaparts.tables import table

AT_3000 = product((1, 12), (3, -12))


def plain_greatest(one, m, t, row):
    value = told_clearing(one, m, t)[3]
    found = 0
    for rest in orbit(one, m, t):
        for n in range(value[0] // value[1] + 1):
            found = gcd(found, row[m * n + rest])
    return found


class TestGreatest(Asking):
    def test_against_the_words_and_each_u(self):
        for one in MANY:
            row = product_row(one, 1000)
            for m in (1, 2, 3, 5, 7):
                for rests in orbits(one, m):
                    try:
                        told = [greatest_divisor(one, m, t) for t in rests]
                    except TooMany:
                        self.assertRaises(TooMany, decided_dividing, one, m, rests[0], 2)
                        continue
                    value = told_clearing(one, m, rests[0])[3]
                    if m * (value[0] // value[1]) + m <= 1000:
                        self.same(told, [plain_greatest(one, m, rests[0], row)] * len(rests))
                    dividing = [u for u in range(2, 30) if is_dividing(one, m, rests[0], u)]
                    self.same(dividing, [u for u in range(2, 30) if told[0] % u == 0])
                    self.same(divisors_told(one, m, rests[-1], 29), dividing)

    def test_known(self):
        self.same([greatest_divisor(PARTS, 5, 4), greatest_divisor(PARTS, 7, 5), greatest_divisor(PARTS, 11, 6)], [5, 7, 11])
        self.same([greatest_divisor(PARTS, 5, 3), greatest_divisor(PARTS, 1, 0), greatest_divisor(PARTS, 25, 24)], [1, 1, 25])
        self.same([greatest_divisor(THREES, 3, 2), greatest_divisor(PAIRS, 5, 4)], [9, 5])
        self.same(greatest_divisor(TAU, 2, 1), 8)

    def test_all_numbers_nought(self):
        # Below 0 there is no place.
        self.same(told_clearing(product(), 2, 1)[3], (-1, 2))
        self.same(greatest_divisor(product(), 2, 1), 0)
        self.same(greatest_divisor(product(), 30, 29), 0)
        self.same(divisors_told(product(), 2, 1, 1000), list(range(2, 1001)))
        # There are places, and all numbers are 0: (1 - q)(1 - q^2).. has none at 10 n + 3.
        one = product((1, 1))
        self.same(told_clearing(one, 10, 3)[3], (1367, 240))
        self.assertEqual({number for t in (3, 4, 8, 9) for number in product_row(one, 3000)[t::10]}, {0})
        self.same([greatest_divisor(one, 10, t) for t in (3, 4, 8, 9)], [0, 0, 0, 0])
        self.same(divisors_told(one, 10, 3, 4), [2, 3, 4])

    def test_divisors(self):
        self.same(divisors_told(PARTS, 5, 4, 20), [5])
        self.same(divisors_told(PARTS, 5, 4, 2), [])
        self.same(divisors_told(TAU, 2, 1, 2), [2])
        self.same(divisors_told(TAU, 2, 1, 1000), [2, 4, 8])
        self.same(divisors_told(THREES, 3, 2, 9), [3, 9])
        self.same(divisors_told(THREES, 3, 2, 8), [3])
        self.same(divisors_told(PARTS, 1, 0, 1000), [])
        self.new_each_time(divisors_told, PARTS, 5, 4, 20)

    def test_too_many(self):
        for call in (greatest_divisor, lambda one, m, t: divisors_told(one, m, t, 2)):
            self.too_many("level", 120, call, PARTS, 6, 0)
            call(product((1, -44)), 11, 0)
            self.too_many("places", 200, call, product((1, -31)), 13, 0)
            self.too_many("places", 3000, call, product((1, -15)), 15, 10)
            call(AT_3000, 24, 0)
            self.too_many("places", 3000, call, AT_3000, 24, 2)

    def test_wrong_values(self):
        for call in (lambda one, m, t, most: greatest_divisor(one, m, t), divisors_told):
            self.refused(InvalidProduct, WRONG_PRODUCTS, lambda value: call(value, 5, 4, 20))
            self.refused(InvalidStep, beyond(1, 30), lambda value: call(PARTS, value, 0, 20))
            self.refused(InvalidRest, beyond(0, 4) + [5], lambda value: call(PARTS, 5, value, 20))
            self.told(InvalidProduct, {"value": None}, call, None, 0, -1, 0)
            self.told(InvalidStep, {"value": 31}, call, PARTS, 31, -1, 0)
            self.told(InvalidRest, {"value": -1}, call, PARTS, 5, -1, 0)
        self.refused(InvalidMost, beyond(2, 1000) + [0], lambda value: divisors_told(PARTS, 5, 4, value))
        self.told(InvalidMost, {"value": 1}, divisors_told, PARTS, 6, 0, 1)


class TestFinds(Asking):
    def test_against_tables(self):
        many = 0
        for one in MANY:
            for u in (2, 3, 5, 7):
                told = table(one, 9, u)
                finds = sorted((m, t) + answer[1:] for m, rests, answer in told if answer[0] == "divisible" for t in rests)
                self.same(all_dividing(one, 9, u), finds)
                sections = [find[:2] for find in finds]
                least = [(m, t) for m, t in sections
                         if not any(m % k == 0 and k < m and t % k == s for k, s in sections)]
                self.same(least_dividing(one, 9, u), least)
                self.same(first_dividing(one, 9, u), least[0] if least else None)
                many += len(sections) > len(least)
        self.assertGreater(many, 10)

    def test_what_follows_is_divisible(self):
        for one in (PARTS, PAIRS, THREES, TAU):
            for u in (2, 3, 5):
                told = {(m, t): answer[0] for m, rests, answer in table(one, 10, u) for t in rests}
                for k, s in told:
                    if told[k, s] == "divisible":
                        for m, t in told:
                            if follows((m, t), (k, s)):
                                self.assertIn(told[m, t], ("divisible", "untold"))

    def test_known(self):
        self.same(least_dividing(PARTS, 5, 5), [(5, 4)])
        self.same(all_dividing(PARTS, 5, 5), [(5, 4, 5, 1, 5)])
        self.same([find[:2] for find in all_dividing(PARTS, 10, 5)], [(5, 4), (10, 4), (10, 9)])
        self.same(least_dividing(PARTS, 12, 5), [(5, 4)])
        self.same([least_dividing(PARTS, 12, 7), least_dividing(PARTS, 12, 11)], [[(7, 5)], [(11, 6)]])
        self.same(all_dividing(PAIRS, 5, 5), [(5, 2, 5, 1, 10), (5, 3, 5, 1, 10), (5, 4, 5, 1, 10)])
        self.same(first_dividing(PARTS, 12, 5), (5, 4))
        self.same(first_dividing(product(), 2, 1000), (2, 1))

    def test_no_finds(self):
        self.same([all_dividing(PARTS, 4, 5), least_dividing(PARTS, 4, 5), first_dividing(PARTS, 4, 5)], [[], [], None])
        self.same([all_dividing(PARTS, 12, 13), least_dividing(PARTS, 2, 2), first_dividing(PARTS, 2, 1000)], [[], [], None])

    def test_new_lists(self):
        self.new_each_time(all_dividing, PARTS, 5, 5)
        self.new_each_time(least_dividing, PARTS, 5, 5)

    def test_wrong_values(self):
        for call in (all_dividing, least_dividing, first_dividing):
            self.refused(InvalidProduct, WRONG_PRODUCTS, lambda value: call(value, 5, 5))
            self.refused(InvalidMost, beyond(2, 12) + [0], lambda value: call(PARTS, value, 5))
            self.refused(InvalidDivisor, beyond(2, 1000) + [0], lambda value: call(PARTS, 2, value))
            self.told(InvalidProduct, {"value": None}, call, None, 1, 1)
            self.told(InvalidMost, {"value": 13}, call, PARTS, 13, 1)


class TestFollows(Asking):
    def test_against_the_numbers(self):
        sections = [(m, t) for m in range(1, 13) for t in range(m)] + [(30, 29), (30, 0), (15, 14)]
        for m, t in sections:
            for k, s in sections:
                among = all((m * n + t - s) % k == 0 for n in range(3)) and m > k
                self.same(follows((m, t), (k, s)), among)

    def test_known(self):
        self.same([follows((10, 9), (5, 4)), follows((10, 8), (5, 4)), follows((5, 4), (5, 4)), follows((5, 4), (10, 9))],
                  [True, False, False, False])
        self.same([follows((2, 1), (1, 0)), follows((1, 0), (1, 0)), follows((6, 4), (4, 0)), follows((30, 29), (15, 14))],
                  [True, False, False, True])

    def test_wrong_values(self):
        wrong = NOT_TUPLES + [(), (5,), (5, 4, 3), [5, 4], (5, 5), (5, -1), (0, 0), (31, 0), (-5, 0), (True, 0), (5, True), (5, False),
                              ("5", 4), (5, "4"), (None, 4), (5, None), ((5, 4),), ((5,), 4), (5, (4,)), "54", {5: 4, 4: 5}]
        self.refused(InvalidSection, wrong, lambda value: follows(value, (5, 4)))
        self.refused(InvalidSection, wrong, lambda value: follows((5, 4), value))
        self.told(InvalidSection, {"value": (1, 1)}, follows, (1, 1), (2, 2))


if __name__ == "__main__":
    unittest.main()
