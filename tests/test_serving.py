import unittest
from math import gcd

from asking import PARTS, TWELVE_STEPS, WRONG_LEVELS, WRONG_PRODUCTS, Asking, beyond, product

from etaparts.errors import InvalidLevel, InvalidProduct, InvalidRest, InvalidStep
from etaparts.orbits import orbits
from etaparts.serving import least_serving, serves, why_not

SQUARES = product((1, -2), (2, 5), (4, -2))
MANY = [product(), PARTS, product((1, -2)), product((1, -3)), product((2, -1)), SQUARES, product((1, -1), (2, 1)),
        product((7, -1)), product((8, 1)), product((60, 60)), product((1, -60)), product((2, 1), (3, -1)), product((4, -3)),
        product((1, 2), (2, 1), (4, 1)), product((4, -5), (12, -3)), product((1, 24)), TWELVE_STEPS,
        product((1, -5), (5, 1)), product((2, -4), (4, -4)), product((4, -5), (20, -3)), product((4, -5), (60, -3)),
        product((1, -4), (3, -4))]


def plainly_broken(one, m, t, level):
    """By the words of the six rows."""
    total, shifted = sum(power for _, power in one[1]), sum(step * power for step, power in one[1])
    k = 24 if m == 1 else gcd(m * m - 1, 24)
    primes = [p for p in range(2, m + 1) if m % p == 0 and all(p % d for d in range(2, p))]
    if not all(level % p == 0 for p in primes):
        return 1
    if not all(m * level % step == 0 for step, _ in one[1]):
        return 2
    if k * level * sum(power * (m * level // step) for step, power in one[1]) % 24 != 0:
        return 3
    if k * level * total % 8 != 0:
        return 4
    if level % (24 * m // gcd(k * (24 * t + shifted), 24 * m)) != 0:
        return 5
    odd, s = 1, 0
    for step, power in one[1]:
        odd *= step ** abs(power)
    while odd % 2 == 0:
        odd, s = odd // 2, s + 1
    if m % 2 == 1 or (k * level % 4 == 0 and s * level % 8 == 0) or (s % 2 == 0 and level * (1 - odd) % 8 == 0):
        return None
    return 6


class TestServing(Asking):
    def test_against_the_words(self):
        seen = {}
        for one in MANY:
            for m in (1, 2, 3, 4, 5, 6, 7, 8, 9, 10, 12, 24, 25, 30):
                for t in sorted({0, 1 % m, m // 2, m - 1}):
                    for level in (1, 2, 3, 4, 5, 6, 7, 8, 9, 10, 12, 14, 15, 16, 20, 24, 30, 32, 40, 60, 64, 72, 80, 119, 120):
                        told = plainly_broken(one, m, t, level)
                        self.same(why_not(one, m, t, level), told)
                        self.same(serves(one, m, t, level), told is None)
                        seen[told] = seen.get(told, 0) + 1
        self.assertEqual(sorted(seen, key=str), [1, 2, 3, 4, 5, 6, None])

    def test_least(self):
        for one in MANY:
            for m in (1, 2, 3, 5, 6, 7, 12):
                for t in sorted({0, m - 1}):
                    serving = [level for level in range(1, 121) if plainly_broken(one, m, t, level) is None]
                    self.same(least_serving(one, m, t), serving[0] if serving else None)
                    # What is a multiple of one that serves, serves.
                    for level in serving:
                        self.assertTrue(all(more in serving for more in range(level, 121, level)))

    def test_whatever_rest_of_an_orbit(self):
        for one in MANY:
            for m in (2, 3, 5, 7, 9, 10, 24, 25):
                for rests in orbits(one, m):
                    told = [serves(one, m, rests[0], level) for level in range(1, 121)]
                    for t in rests[1:]:
                        self.assertEqual([serves(one, m, t, level) for level in range(1, 121)], told)

    def test_each_row_broken_first(self):
        self.same(why_not(PARTS, 5, 4, 4), 1)
        self.same(why_not(PARTS, 6, 0, 2), 1)
        self.same(why_not(PARTS, 6, 0, 3), 1)
        self.same(why_not(product((2, -1)), 1, 0, 1), 2)
        self.same(why_not(product((7, 1)), 5, 0, 5), 2)
        self.same(why_not(product((2, -1)), 2, 0, 2), 3)
        self.same(why_not(PARTS, 2, 0, 2), 4)
        self.same(why_not(PARTS, 25, 0, 5), 5)
        self.same(why_not(product(), 4, 1, 2), 5)
        # By an odd number of twos, and by the odd rest.
        self.same(why_not(product((1, 2), (2, 1), (4, 1)), 2, 0, 4), 6)
        self.same(why_not(product((1, 2), (2, 1), (4, 1)), 2, 1, 4), 6)
        self.same(why_not(product((4, -5), (12, -3)), 4, 1, 6), 6)
        self.same(why_not(product((4, -5), (60, -3)), 4, 1, 30), 6)
        # The odd rest is right, with no twos and with an even number of them.
        self.same(why_not(product((1, -5), (5, 1)), 2, 0, 10), None)
        self.same(why_not(product((2, -4), (4, -4)), 2, 0, 2), None)
        self.same(why_not(product((4, -5), (20, -3)), 2, 0, 10), None)
        self.same(why_not(PARTS, 5, 4, 5), None)

    def test_known(self):
        self.same([serves(PARTS, 5, 4, 5), serves(PARTS, 5, 4, 10), serves(PARTS, 5, 4, 4)], [True, True, False])
        self.same([least_serving(PARTS, 5, 4), least_serving(PARTS, 7, 5), least_serving(PARTS, 11, 6)], [5, 7, 11])
        self.same([least_serving(PARTS, 25, 24), least_serving(PARTS, 1, 0), least_serving(product(), 30, 0)], [5, 1, 30])
        self.same(least_serving(product((1, -3)), 3, 2), 3)
        self.same(least_serving(product((1, 2), (2, 1), (4, 1)), 2, 0), 8)
        self.same(why_not(product((1, 2), (2, 1), (4, 1)), 2, 0, 8), None)

    def test_levels_one_and_a_hundred_and_twenty(self):
        self.yes(serves(product(), 1, 0, 1))
        self.yes(serves(PARTS, 1, 0, 1))
        self.yes(serves(PARTS, 1, 0, 120))
        self.no(serves(PARTS, 2, 0, 1))
        self.yes(serves(product((3, 2)), 10, 0, 120))
        self.same(least_serving(product((3, 2)), 10, 0), 120)
        self.yes(serves(product((60, 60)), 8, 1, 120))
        self.same(least_serving(product((60, 60)), 8, 1), 120)

    def test_none_serves(self):
        for t in range(6):
            self.same(least_serving(PARTS, 6, t), None)
            self.assertTrue(all(why_not(PARTS, 6, t, level) is not None for level in range(1, 121)))
        self.same(least_serving(product((58, 1), (59, 1)), 1, 0), None)

    def test_wrong_values(self):
        for call in (serves, why_not, lambda one, m, t, _: least_serving(one, m, t)):
            self.refused(InvalidProduct, WRONG_PRODUCTS, lambda value: call(value, 5, 4, 5))
            self.refused(InvalidStep, beyond(1, 30), lambda value: call(PARTS, value, 0, 5))
            self.refused(InvalidRest, beyond(0, 4) + [5], lambda value: call(PARTS, 5, value, 5))
            self.refused(InvalidRest, beyond(0, 0), lambda value: call(PARTS, 1, value, 5))
            self.told(InvalidProduct, {"value": None}, call, None, 0, -1, 0)
            self.told(InvalidStep, {"value": 31}, call, PARTS, 31, 31, 0)
            self.told(InvalidRest, {"value": 30}, call, PARTS, 30, 30, 0)
        for call in (serves, why_not):
            self.refused(InvalidLevel, WRONG_LEVELS, lambda value: call(PARTS, 5, 4, value))


if __name__ == "__main__":
    unittest.main()
