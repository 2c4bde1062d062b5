import unittest

from asking import NOT_INTEGERS, PARTS, WRONG_LEVELS, WRONG_PRODUCTS, Asking, beyond, product
from dividing_plainly import TAU
from test_hecke import GREAT, LATE, SQUARES, TWO, WHOLE, WRONG_PRIMES, plain_carried, plain_placed, serving

from etaparts.divisors import primes_of, symbol
from etaparts.errors import InvalidLevel, InvalidNumber, InvalidPrime, InvalidProduct, InvalidTarget, NotCarried, NotFitting
from etaparts.errors import NotMultiple, NotOne, TooMany
from etaparts.fitting import kind_of
from etaparts.hecke import carried_row, placed_row, places_asked
from etaparts.levels import shift_of
from etaparts.multiples import decided_multiple, is_multiple, multiples_to, told_by_primes

# 11 carries it to a multiple, 3, 7 and 13 don't.
MIXED = product((1, 9), (5, 3))


def plain_answer(level, one, p):
    many = places_asked(level, one) + 1
    row, carried = plain_placed(one, many), plain_carried(level, one, p, many)
    number = carried[shift_of(one)[0]]
    for n in range(many):
        if carried[n] != number * row[n]:
            return ("place", n, carried[n] - number * row[n])
    return ("multiple", number)


class TestDecided(Asking):
    def test_against_the_words_and_far_beyond(self):
        seen = {"multiple": 0, "place": 0}
        for level, one in WHOLE + [(5, MIXED), (9, product((1, 6), (3, -3), (9, 3))), (19, product((1, 5), (19, 1)))]:
            for p in serving(level, 19):
                if p * places_asked(level, one) > 3000:
                    continue
                told = decided_multiple(level, one, p)
                self.same(told, plain_answer(level, one, p))
                seen[told[0]] += 1
                number = carried_row(level, one, p, shift_of(one)[0] + 1)[-1]
                self.same(is_multiple(level, one, p, number), told[0] == "multiple")
                self.no(is_multiple(level, one, p, number + 1))
                if told[0] == "multiple":
                    self.same(told, ("multiple", number))
                    many = min(60, 3000 // p)
                    self.assertEqual(carried_row(level, one, p, many), [number * b for b in placed_row(level, one, many)])
        self.assertTrue(min(seen.values()) > 3, seen)

    def test_known(self):
        self.same([decided_multiple(1, TAU, 3), decided_multiple(1, GREAT, 3)], [("multiple", 252), ("place", 1, -48)])
        self.same([decided_multiple(1, TAU, 5), decided_multiple(1, TAU, 7)], [("multiple", 4830), ("multiple", -16744)])
        self.same([decided_multiple(11, TWO, p) for p in (3, 5, 7, 13)],
                  [("multiple", -1), ("multiple", 1), ("multiple", -2), ("multiple", 4)])
        self.same([decided_multiple(23, LATE, p) for p in (3, 5, 7, 59)],
                  [("multiple", -1), ("multiple", 0), ("multiple", 0), ("multiple", 2)])
        # The squares' product begins at 0, where nothing but 0 is asked.
        self.same([places_asked(4, SQUARES), decided_multiple(4, SQUARES, 3), decided_multiple(4, SQUARES, 97)],
                  [0, ("multiple", 0), ("multiple", 2)])
        self.same([is_multiple(11, TWO, 3, -1), is_multiple(11, TWO, 3, 1), is_multiple(1, GREAT, 3, 0)], [True, False, False])

    def test_too_many(self):
        # The level 120 asks 288 places of the weight 12.
        self.assertEqual([places_asked(120, TAU), places_asked(30, TAU), places_asked(25, TAU)], [288, 72, 30])
        for call in (decided_multiple, lambda level, one, p: is_multiple(level, one, p, 0),
                     lambda level, one, p: multiples_to(level, one, p)):
            call(120, TAU, 7)
            self.too_many("places", 3000, call, 120, TAU, 11)
            self.too_many("places", 3000, call, 120, TAU, 97)
            call(30, TAU, 41)
            self.too_many("places", 3000, call, 30, TAU, 43)
            call(25, TAU, 97)
        self.same(multiples_to(120, TAU, 10), [(7, -16744)])

    def test_wrong_values(self):
        fifteen = product((1, 1), (3, 1), (5, 1), (15, 1))
        for call in (decided_multiple, lambda level, one, p: is_multiple(level, one, p, 1)):
            self.refused(InvalidLevel, WRONG_LEVELS, lambda value: call(value, TAU, 3))
            self.refused(InvalidProduct, WRONG_PRODUCTS, lambda value: call(1, value, 3))
            self.refused(InvalidPrime, WRONG_PRIMES, lambda value: call(15, fifteen, value))
            self.told(InvalidLevel, {"value": 0}, call, 0, None, 2)
            self.told(InvalidProduct, {"value": None}, call, 1, None, 2)
            self.told(InvalidPrime, {"value": 2}, call, 1, PARTS, 2)
            self.told(NotFitting, {}, call, 1, PARTS, 3)
            self.told(NotCarried, {}, call, 1, product(), 3)
            self.told(NotCarried, {}, call, 23, product((1, 25), (23, 25)), 97)
            self.told(NotCarried, {}, call, 2, product((1, -40), (2, 56)), 3)
        self.refused(InvalidNumber, NOT_INTEGERS, lambda value: is_multiple(1, TAU, 3, value))
        self.no(is_multiple(1, TAU, 3, 10 ** 29))
        self.told(InvalidPrime, {"value": 2}, is_multiple, 1, PARTS, 2, None)
        self.told(InvalidNumber, {"value": None}, is_multiple, 1, PARTS, 3, None)


class TestMultiples(Asking):
    def test_against_each_prime(self):
        nones = 0
        for level, one in WHOLE:
            most = max([p for p in serving(level, 97) if p * places_asked(level, one) <= 3000], default=0)
            most = min(most, 40)
            told = multiples_to(level, one, most)
            self.assertEqual([p for p, _ in told], serving(level, most))
            for p, number in told:
                answer = decided_multiple(level, one, p)
                self.same(number, answer[1] if answer[0] == "multiple" else None)
                nones += number is None
        self.assertGreater(nones, 5)

    def test_known(self):
        self.same(multiples_to(11, TWO, 5), [(3, -1), (5, 1)])
        self.same(multiples_to(1, TAU, 8), [(3, 252), (5, 4830), (7, -16744)])
        self.same(multiples_to(1, GREAT, 5), [(3, None), (5, None)])
        self.same([multiples_to(1, TAU, 0), multiples_to(1, TAU, 2), multiples_to(3, product((1, 6), (3, 6)), 4)], [[], [], []])
        self.same([p for p, _ in multiples_to(1, TAU, 97)], serving(1, 97))
        self.same([p for p, _ in multiples_to(11, TWO, 97)], serving(11, 97))
        self.new_each_time(multiples_to, 11, TWO, 5)

    def test_wrong_values(self):
        self.refused(InvalidLevel, WRONG_LEVELS, lambda value: multiples_to(value, TAU, 5))
        self.refused(InvalidProduct, WRONG_PRODUCTS, lambda value: multiples_to(1, value, 5))
        self.refused(InvalidTarget, beyond(0, 97), lambda value: multiples_to(1, TAU, value))
        self.told(InvalidLevel, {"value": 0}, multiples_to, 0, None, -1)
        self.told(InvalidProduct, {"value": None}, multiples_to, 1, None, -1)
        self.told(InvalidTarget, {"value": 98}, multiples_to, 1, PARTS, 98)
        for most in (0, 2, 97):
            self.told(NotFitting, {}, multiples_to, 1, PARTS, most)
            self.told(NotCarried, {}, multiples_to, 1, product(), most)


class TestToldByPrimes(Asking):
    def test_against_the_placed_row(self):
        for level, one in ((1, TAU), (11, TWO), (23, LATE), (2, product((1, 8), (2, 8))), (3, product((1, 6), (3, 6))),
                           (5, product((1, 4), (5, 4))), (7, product((1, 3), (7, 3))), (4, product((2, 12))), (16, product((4, 6)))):
            row = placed_row(level, one, 2000)
            told = 0
            for target in list(range(1, 400, 2)) + [729, 625, 1225, 1331, 1715, 1849, 1999, 1155, 945]:
                primes = [p for p, _ in primes_of(target)]
                if all(p in serving(level, 97) for p in primes):
                    self.same(told_by_primes(level, one, target), row[target])
                    told += 1
                else:
                    self.told(InvalidTarget, {"value": target}, told_by_primes, level, one, target)
            self.assertGreater(told, 40)

    def test_known(self):
        self.same([told_by_primes(1, TAU, 9), told_by_primes(1, TAU, 15), told_by_primes(11, TWO, 27)], [-113643, 1217160, 5])
        self.same([told_by_primes(1, TAU, 1), told_by_primes(11, TWO, 1), told_by_primes(1, TAU, 97)],
                  [1, 1, placed_row(1, TAU, 98)[97]])
        self.same(told_by_primes(1, TAU, 9), 252 * 252 - 3 ** 11)

    def test_great_targets(self):
        # 3^18 is the greatest power of 3 to 10^9; 3 to 23 together make 111,546,435.
        ahead, here = 1, 252
        for _ in range(17):
            ahead, here = here, 252 * here - 3 ** 11 * ahead
        self.same(told_by_primes(1, TAU, 3 ** 18), here)
        row = placed_row(1, TAU, 100)
        together = 1
        for p in (3, 5, 7, 11, 13, 17, 19, 23):
            together *= row[p]
        self.same(told_by_primes(1, TAU, 111546435), together)
        nearly = 999999999
        self.assertEqual(primes_of(999999)[0][0], 3)
        self.told(InvalidTarget, {"value": nearly}, told_by_primes, 1, TAU, nearly)
        self.told(InvalidTarget, {"value": 97 * 97 * 97 * 97 * 97}, told_by_primes, 1, TAU, 97 ** 5)
        self.same(told_by_primes(1, TAU, 97 ** 4), told_by_primes(1, TAU, 97) * told_by_primes(1, TAU, 97 ** 3)
                  - 97 ** 11 * told_by_primes(1, TAU, 97 ** 2))

    def test_the_sign(self):
        # Of the kind (1, -23): 3 has the symbol 1, 5 has -1.
        self.same([symbol(-23, 3), symbol(-23, 5), kind_of(LATE, 23)], [1, -1, (1, -23)])
        self.same([told_by_primes(23, LATE, 9), told_by_primes(23, LATE, 25), told_by_primes(23, LATE, 125)], [0, 1, 0])

    def test_not_one(self):
        self.told(NotOne, {}, told_by_primes, 1, GREAT, 3)
        self.told(NotOne, {}, told_by_primes, 1, GREAT, 1)
        self.told(NotOne, {}, told_by_primes, 4, SQUARES, 3)
        # Ahead of a prime that is too great, and of one that carries to no multiple.
        self.told(NotOne, {}, told_by_primes, 120, product((2, 24)), 97)

    def test_not_multiple(self):
        for level, one in ((5, MIXED), (9, product((1, 6), (3, -3), (9, 3))), (25, MIXED), (6, product((1, 5), (2, 5), (3, 1), (6, 1)))):
            numbers = dict(multiples_to(level, one, 13))
            for target in (3, 5, 7, 9, 11, 13, 21, 33, 35, 49, 77, 91, 121, 143, 1001, 1573):
                primes = [p for p, _ in primes_of(target)]
                if any(p not in numbers for p in primes):
                    self.told(InvalidTarget, {"value": target}, told_by_primes, level, one, target)
                    continue
                wrong = [p for p in primes if numbers[p] is None]
                if wrong:
                    self.told(NotMultiple, {"prime": wrong[0]}, told_by_primes, level, one, target)
                else:
                    self.same(told_by_primes(level, one, target), placed_row(level, one, target + 1)[target])
        self.same(multiples_to(5, MIXED, 13), [(3, None), (7, None), (11, 252), (13, None)])
        self.same(told_by_primes(5, MIXED, 11), 252)
        self.told(NotMultiple, {"prime": 7}, told_by_primes, 5, MIXED, 1001)
        self.told(NotMultiple, {"prime": 13}, told_by_primes, 5, MIXED, 143)
        # Ahead of a prime that is too great.
        one = product((1, 5), (2, 5), (3, 1), (6, 1))
        self.assertEqual(places_asked(120, one), 144)
        self.told(NotMultiple, {"prime": 7}, told_by_primes, 120, one, 7 * 23)
        self.too_many("places", 3000, told_by_primes, 120, one, 23)

    def test_wrong_values(self):
        self.refused(InvalidLevel, WRONG_LEVELS, lambda value: told_by_primes(value, TAU, 9))
        self.refused(InvalidProduct, WRONG_PRODUCTS, lambda value: told_by_primes(1, value, 9))
        wrong = beyond(1, 10 ** 9) + [0, -1, -3, 2, 4, 6, 30, 10 ** 9, 10 ** 9 + 1, 101, 303, 103 * 3, 999999937]
        self.refused(InvalidTarget, wrong, lambda value: told_by_primes(1, TAU, value))
        self.refused(InvalidTarget, [11, 33, 121, 363], lambda value: told_by_primes(11, TWO, value))
        self.told(InvalidLevel, {"value": 0}, told_by_primes, 0, None, 2)
        self.told(InvalidProduct, {"value": None}, told_by_primes, 1, None, 2)
        self.told(InvalidTarget, {"value": 2}, told_by_primes, 1, PARTS, 2)
        self.told(NotFitting, {}, told_by_primes, 1, PARTS, 3)
        self.told(NotCarried, {}, told_by_primes, 1, product(), 3)

    def test_too_many(self):
        self.same(told_by_primes(120, TAU, 7), -16744)
        self.same(told_by_primes(120, TAU, 1), 1)
        self.too_many("places", 3000, told_by_primes, 120, TAU, 11)
        self.too_many("places", 3000, told_by_primes, 120, TAU, 77)
        self.assertRaises(TooMany, told_by_primes, 120, TAU, 11 * 13)


if __name__ == "__main__":
    unittest.main()
