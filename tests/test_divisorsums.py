import unittest
from fractions import Fraction
from math import gcd

from asking import WRONG_DIVISORS, Asking, beyond, pair, product, squares

from etaparts.divisorsums import divisor_row, divisor_total, is_divisor_sum, own_level, plain_divisor_row
from etaparts.errors import InvalidDivisors, InvalidMany, InvalidNumber, InvalidWord
from etaparts.thetas import ways_row

# For each word the least and the greatest step, and how many times the step the own level is.
STEPS = {"third": (1, 40, 3), "quarter": (1, 30, 4), "two": (2, 60, 1), "four": (1, 60, 1), "six": (1, 60, 1)}
WRONG_WORDS = [True, False, None, 0, 1, 2, "", "one", "three", "five", "Two", "two ", "thirds", b"two", (), ("two",), ["two"],
               {"two": 1}, {"two"}, object(), "divisors"]


def every_divisor_sum():
    return [("divisors", word, step) for word, (low, high, _) in STEPS.items() for step in range(low, high + 1)]


def plain_total(word, number):
    divisors = [d for d in range(1, number + 1) if number % d == 0]
    if word == "third":
        return sum(1 if d % 3 == 1 else -1 if d % 3 == 2 else 0 for d in divisors)
    if word == "quarter":
        return sum(1 if d % 4 == 1 else -1 if d % 4 == 3 else 0 for d in divisors)
    return sum(d ** {"two": 1, "four": 3, "six": 5}[word] for d in divisors)


def plain_number(divisors, place):
    """By the words of the table."""
    _, word, step = divisors
    if place == 0:
        return Fraction(1)
    inner = plain_total(word, place // step) if place % step == 0 else 0
    if word == "two":
        return Fraction(24, step - 1) * (plain_total(word, place) - step * inner)
    return Fraction({"third": 6, "quarter": 4, "four": 240, "six": -504}[word] * inner)


def integers(row):
    return [Fraction(*number) for number in row]


def multiplied(row, other):
    return [sum(row[k] * other[n - k] for k in range(n + 1)) for n in range(min(len(row), len(other)))]


class TestIsDivisorSum(Asking):
    def test_each_word_and_step(self):
        for word in ("third", "quarter", "two", "four", "six"):
            low, high, _ = STEPS[word]
            for step in range(-1, 122):
                self.same(is_divisor_sum(("divisors", word, step)), low <= step <= high)

    def test_any_value(self):
        self.only_for(is_divisor_sum, every_divisor_sum(), WRONG_DIVISORS + [product((1, -1)), ("sum", ()), squares(1)])


class TestTotal(Asking):
    def test_against_the_words(self):
        for word in STEPS:
            for number in list(range(1, 121)) + [2997, 2998, 2999, 3000]:
                self.same(divisor_total(word, number), plain_total(word, number))

    def test_known(self):
        self.same([divisor_total("third", 7), divisor_total("two", 6), divisor_total("six", 2)], [2, 12, 33])
        for word in STEPS:
            self.same(divisor_total(word, 1), 1)
        self.same([divisor_total(word, 3) for word in STEPS], [1, 0, 4, 28, 244])
        self.same([divisor_total(word, 2) for word in STEPS], [0, 1, 3, 9, 33])
        self.same(divisor_total("six", 2999), 1 + 2999 ** 5)

    def test_of_products(self):
        for word in STEPS:
            for one in range(1, 30):
                for other in range(1, 30):
                    if gcd(one, other) == 1:
                        both = divisor_total(word, one) * divisor_total(word, other)
                        self.assertEqual(divisor_total(word, one * other), both)

    def test_wrong_values(self):
        self.refused(InvalidWord, WRONG_WORDS, lambda value: divisor_total(value, 1))
        self.refused(InvalidNumber, beyond(1, 3000), lambda value: divisor_total("two", value))
        self.told(InvalidWord, {"value": "five"}, divisor_total, "five", 0)
        self.told(InvalidNumber, {"value": 0}, divisor_total, "six", 0)


class TestOwnLevel(Asking):
    def test_own_levels(self):
        for divisors in every_divisor_sum():
            self.same(own_level(divisors), divisors[2] * STEPS[divisors[1]][2])
        self.same(own_level(("divisors", "third", 40)), 120)
        self.same(own_level(("divisors", "quarter", 30)), 120)
        self.same(own_level(("divisors", "two", 2)), 2)
        self.same(own_level(("divisors", "six", 60)), 60)

    def test_wrong_values(self):
        self.refused(InvalidDivisors, WRONG_DIVISORS + [product((1, -1))], own_level)


class TestRows(Asking):
    def test_both_ways_against_the_words(self):
        for divisors in every_divisor_sum():
            told = [pair(plain_number(divisors, place)) for place in range(70)]
            self.same(divisor_row(divisors, 70), told)
            self.same(plain_divisor_row(divisors, 70), told)

    def test_by_totals(self):
        row = divisor_row(("divisors", "six", 1), 101)
        self.same(row[1:], [(-504 * divisor_total("six", n), 1) for n in range(1, 101)])
        row = divisor_row(("divisors", "two", 7), 101)
        inner = [divisor_total("two", n // 7) if n % 7 == 0 else 0 for n in range(1, 101)]
        self.same(row[1:], [(4 * (divisor_total("two", n) - 7 * inner[n - 1]), 1) for n in range(1, 101)])

    def test_many(self):
        for divisors in every_divisor_sum()[::9]:
            for call, most in ((divisor_row, 3000), (plain_divisor_row, 300)):
                self.same(call(divisors, 0), [])
                self.same(call(divisors, 1), [(1, 1)])
                self.assertEqual(len(call(divisors, most)), most)
            self.same(divisor_row(divisors, 3000)[:300], plain_divisor_row(divisors, 300))
        self.same(divisor_row(("divisors", "four", 1), 3000)[2999], (240 * (1 + 2999 ** 3), 1))
        self.same(divisor_row(("divisors", "two", 60), 3000)[2999], pair(Fraction(24 * 3000, 59)))

    def test_known_rows(self):
        self.same(divisor_row(("divisors", "quarter", 1), 6), [(1, 1), (4, 1), (4, 1), (0, 1), (4, 1), (8, 1)])
        self.same(divisor_row(("divisors", "two", 6), 3), [(1, 1), (24, 5), (72, 5)])
        self.same(plain_divisor_row(("divisors", "four", 2), 4), [(1, 1), (0, 1), (240, 1), (0, 1)])
        self.same([n for n, _ in divisor_row(("divisors", "quarter", 1), 300)], ways_row(squares(1, 1), 300))
        self.same([n for n, _ in divisor_row(("divisors", "two", 4), 300)], ways_row(squares(1, 1, 1, 1), 300))
        # The ways of x x + x y + y y, by listing.
        listed = [0] * 50
        for x in range(-20, 21):
            for y in range(-20, 21):
                if x * x + x * y + y * y < 50:
                    listed[x * x + x * y + y * y] += 1
        self.same([n for n, _ in divisor_row(("divisors", "third", 1), 50)], listed)

    def test_products_of_rows(self):
        # The sums over d^7, d^9 and d^13 that come of these rows.
        four = integers(divisor_row(("divisors", "four", 1), 60))
        six = integers(divisor_row(("divisors", "six", 1), 60))
        for row, times, power in ((multiplied(four, four), 480, 7), (multiplied(four, six), -264, 9),
                                  (multiplied(multiplied(four, four), six), -24, 13)):
            told = [1] + [times * sum(d ** power for d in range(1, n + 1) if n % d == 0) for n in range(1, 60)]
            self.assertEqual(row, told)

    def test_new_lists(self):
        self.new_each_time(divisor_row, ("divisors", "two", 2), 4)
        self.new_each_time(plain_divisor_row, ("divisors", "two", 2), 4)

    def test_wrong_values(self):
        for call, most in ((divisor_row, 3000), (plain_divisor_row, 300)):
            self.refused(InvalidDivisors, WRONG_DIVISORS + [product((1, -1))], lambda value: call(value, 1))
            self.refused(InvalidMany, beyond(0, most), lambda value: call(("divisors", "two", 2), value))
            self.told(InvalidDivisors, {"value": None}, call, None, -1)
            self.told(InvalidMany, {"value": most + 1}, call, ("divisors", "two", 60), most + 1)


if __name__ == "__main__":
    unittest.main()
