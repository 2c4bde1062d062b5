import unittest
from math import gcd

from asking import NOT_INTEGERS, Asking, beyond

from etaparts.divisors import common_divisor, coprime_count, divisors_of, index_of, is_prime, primes_of, symbol
from etaparts.errors import InvalidLevel, InvalidNumber, InvalidPrime

WRONG_NUMBERS = beyond(1, 10 ** 6) + [-1]
PRIMES = [n for n in range(2, 3001) if all(n % d for d in range(2, int(n ** 0.5) + 1))]


class TestDivisors(Asking):
    def test_divisors(self):
        for number in range(1, 300):
            self.same(divisors_of(number), [d for d in range(1, number + 1) if number % d == 0])
        self.same(divisors_of(1), [1])
        self.same(divisors_of(36), [1, 2, 3, 4, 6, 9, 12, 18, 36])
        self.same(divisors_of(999983), [1, 999983])
        self.same(divisors_of(994009), [1, 997, 994009])
        self.same(divisors_of(10 ** 6), sorted(2 ** a * 5 ** b for a in range(7) for b in range(7)))

    def test_primes(self):
        self.same(primes_of(1), [])
        self.same(primes_of(2), [(2, 1)])
        self.same(primes_of(720720), [(2, 4), (3, 2), (5, 1), (7, 1), (11, 1), (13, 1)])
        self.same(primes_of(10 ** 6), [(2, 6), (5, 6)])
        self.same(primes_of(999983), [(999983, 1)])
        self.same(primes_of(999999), [(3, 3), (7, 1), (11, 1), (13, 1), (37, 1)])
        self.same(primes_of(994009), [(997, 2)])
        self.same(primes_of(524288), [(2, 19)])
        for number in range(1, 1000):
            found = primes_of(number)
            self.assertEqual([p for p, _ in found], [p for p in PRIMES if number % p == 0])
            whole = 1
            for prime, often in found:
                whole *= prime ** often
            self.assertEqual(whole, number)

    def test_coprime_count(self):
        self.same(coprime_count(1), 1)
        for number in range(2, 300):
            self.same(coprime_count(number), len([k for k in range(number) if gcd(k, number) == 1]))
        self.same(coprime_count(10 ** 6), 400000)
        self.same(coprime_count(999983), 999982)

    def test_wrong_numbers(self):
        for call in (divisors_of, primes_of, coprime_count):
            self.refused(InvalidNumber, WRONG_NUMBERS, call)

    def test_new_lists(self):
        self.new_each_time(divisors_of, 12)
        self.new_each_time(primes_of, 12)


class TestPrimes(Asking):
    def test_is_prime(self):
        self.assertEqual([n for n in range(-10, 3000 + 1) if is_prime(n)], PRIMES)
        self.only_for(is_prime, [2, 3, 5, 1999, 2999], NOT_INTEGERS + [-2, -7, 0, 1, 4, 9, 2209, 2997, 2998, 3000])

    def test_primes_above_3000_are_not_told(self):
        self.only_for(is_prime, [], [3001, 3011, 999983, 1000003, 2 ** 89 - 1])


class TestCommonDivisor(Asking):
    def test_common_divisor(self):
        for first in range(-20, 21):
            for second in range(-20, 21):
                found = [d for d in range(1, 21) if first % d == 0 and second % d == 0]
                self.same(common_divisor(first, second), max(found) if first or second else 0)
        self.same(common_divisor(0, -5), 5)
        self.same(common_divisor(-5, 0), 5)
        self.same(common_divisor(-4, -6), 2)
        self.same(common_divisor(0, 0), 0)
        self.same(common_divisor(6 * 10 ** 28, -4 * 10 ** 28), 2 * 10 ** 28)

    def test_wrong_numbers(self):
        self.refused(InvalidNumber, NOT_INTEGERS, lambda value: common_divisor(value, 1))
        self.refused(InvalidNumber, NOT_INTEGERS, lambda value: common_divisor(1, value))
        self.told(InvalidNumber, {"value": True}, common_divisor, True, None)
        self.told(InvalidNumber, {"value": None}, common_divisor, None, True)


class TestIndex(Asking):
    def test_index(self):
        self.assertEqual([index_of(level) for level in range(1, 13)], [1, 3, 4, 6, 6, 12, 8, 12, 12, 18, 12, 24])
        self.same(index_of(120), 288)
        self.same(index_of(113), 114)
        self.same(index_of(64), 96)

    def test_index_is_the_sum_of_the_widths(self):
        for level in range(1, 121):
            total = 0
            for end in divisors_of(level):
                g = gcd(end, level // end)
                total += coprime_count(g) * level // (end * g)
            self.same(index_of(level), total)

    def test_wrong_levels(self):
        self.refused(InvalidLevel, beyond(1, 120) + [-1, -120], index_of)


class TestSymbol(Asking):
    def test_symbol(self):
        for prime in PRIMES[1:20]:
            squares = [x * x % prime for x in range(1, prime)]
            for first in range(-prime - 3, 2 * prime + 3):
                rest = first % prime
                self.same(symbol(first, prime), 0 if rest == 0 else 1 if rest in squares else -1)

    def test_great_ones(self):
        self.same(symbol(-1, 2999), -1)
        self.same(symbol(2, 2999), 1)
        self.same(symbol(1500 ** 2, 2999), 1)
        self.same(symbol(0, 2999), 0)
        self.same(symbol(2999 * 10 ** 20, 2999), 0)
        self.same(symbol(-2999, 2999), 0)
        self.same(symbol(-2 ** 90, 3), -1)
        self.same(symbol(2 ** 89, 3), -1)

    def test_products(self):
        for prime in (3, 5, 7, 23, 97):
            for first in range(-12, 13):
                for second in range(-12, 13):
                    self.assertEqual(symbol(first * second, prime), symbol(first, prime) * symbol(second, prime))

    def test_wrong_values(self):
        self.refused(InvalidNumber, NOT_INTEGERS, lambda value: symbol(value, 7))
        wrong = NOT_INTEGERS + [-7, -3, -1, 0, 1, 2, 4, 9, 15, 2997, 3000, 3001, 3011, 10 ** 29]
        self.refused(InvalidPrime, wrong, lambda value: symbol(3, value))
        self.told(InvalidNumber, {"value": False}, symbol, False, 2)
        self.told(InvalidPrime, {"value": 2}, symbol, 0, 2)


if __name__ == "__main__":
    unittest.main()
