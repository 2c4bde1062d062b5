import unittest

from asking import EULER, PARTS, WRONG_LEVELS, WRONG_PRODUCTS, Asking, beyond, product
from dividing_plainly import TAU, plain_index

from etaparts.divisors import symbol
from etaparts.ends import orders
from etaparts.errors import InvalidLevel, InvalidMany, InvalidPrime, InvalidProduct, NotCarried, NotFitting
from etaparts.fitting import kind_of
from etaparts.hecke import carried_row, placed_row, places_asked, symbol_at
from etaparts.levels import shift_of
from etaparts.series import product_row

TWO = product((1, 2), (11, 2))
LATE = product((1, 1), (23, 1))
SQUARES = product((1, -4), (2, 10), (4, -4))
GREAT = product((1, 48))
# (level, product): of weights 1 to 24, shifts 0 to 2, both signs of kinds.
WHOLE = [(1, TAU), (2, TAU), (1, GREAT), (11, TWO), (22, TWO), (23, LATE), (4, SQUARES), (2, product((1, 8), (2, 8))),
         (3, product((1, 6), (3, 6))), (5, product((1, 4), (5, 4))), (7, product((1, 3), (7, 3))), (4, product((2, 12))),
         (4, product((1, -8), (2, 20), (4, -8))), (6, product((1, 2), (2, 2), (3, 2), (6, 2))), (16, product((4, 6))),
         (110, TWO), (120, TAU), (23, product((1, 24), (23, 24)))]
ODD_PRIMES = [p for p in range(3, 98) if all(p % d for d in range(2, p))]
# No serving primes of the level 15.
WRONG_PRIMES = beyond(3, 97) + [0, 1, 2, 3, 4, 5, 6, 9, 15, 21, 49, 95, 96, 98, 99, 101, -7]


def serving(level, most):
    return [p for p in ODD_PRIMES if p <= most and level % p != 0]


def plain_placed(one, many):
    shift = shift_of(one)[0]
    return ([0] * shift + product_row(one, many))[:many]


def plain_carried(level, one, p, many):
    weight, sign = kind_of(one, level)
    row = plain_placed(one, max(p * (many - 1) + 1, 0))
    e = symbol(sign, p)
    return [row[p * n] + (e * p ** (weight - 1) * row[n // p] if n % p == 0 else 0) for n in range(many)]


class TestPlaced(Asking):
    def test_against_the_words(self):
        for level, one in WHOLE:
            for many in (0, 1, 2, 3, 40):
                self.same(placed_row(level, one, many), plain_placed(one, many))

    def test_known(self):
        self.same(placed_row(1, TAU, 7), [0, 1, -24, 252, -1472, 4830, -6048])
        self.same(placed_row(11, TWO, 10), [0, 1, -2, -1, 2, 1, 2, -2, 0, -2])
        self.same(placed_row(1, GREAT, 4), [0, 0, 1, -48])
        self.same(placed_row(4, SQUARES, 6), [1, 4, 4, 0, 4, 8])
        self.same(placed_row(1, TAU, 3000)[-1], product_row(TAU, 2999)[-1])
        self.new_each_time(placed_row, 1, TAU, 5)

    def test_wrong_values(self):
        self.refused(InvalidLevel, WRONG_LEVELS, lambda value: placed_row(value, TAU, 5))
        self.refused(InvalidProduct, WRONG_PRODUCTS, lambda value: placed_row(1, value, 5))
        self.refused(InvalidMany, beyond(0, 3000), lambda value: placed_row(1, TAU, value))
        self.told(InvalidLevel, {"value": 0}, placed_row, 0, None, -1)
        self.told(InvalidProduct, {"value": None}, placed_row, 1, None, -1)
        self.told(InvalidMany, {"value": -1}, placed_row, 1, PARTS, -1)


class TestCarried(Asking):
    def test_against_the_words(self):
        for level, one in WHOLE:
            for p in serving(level, 23) + serving(level, 97)[-1:]:
                for many in (0, 1, 2, 7, 12):
                    self.same(carried_row(level, one, p, many), plain_carried(level, one, p, many))

    def test_known(self):
        self.same(carried_row(1, TAU, 3, 3), [0, 252, -6048])
        self.same(carried_row(11, TWO, 3, 4), [0, -1, 2, 1])
        self.same(carried_row(1, GREAT, 3, 3), [0, -48] + plain_carried(1, GREAT, 3, 3)[2:])
        # With the sign -1 at 3, which leaves 3 by 4.
        self.same(carried_row(4, SQUARES, 3, 4), [1 - 1, 0, 0, 4 - 4])
        self.same(carried_row(4, SQUARES, 5, 2), [2, 8])
        self.new_each_time(carried_row, 1, TAU, 3, 3)

    def test_places_beyond_three_thousand(self):
        self.same(len(carried_row(1, TAU, 3, 1001)), 1001)
        self.too_many("places", 3000, carried_row, 1, TAU, 3, 1002)
        self.too_many("places", 3000, carried_row, 1, TAU, 3, 3000)
        self.same(len(carried_row(1, TAU, 97, 31)), 31)
        self.too_many("places", 3000, carried_row, 1, TAU, 97, 32)
        self.same([carried_row(1, TAU, 97, 0), carried_row(1, TAU, 97, 1)], [[], [0]])

    def test_of_two_primes(self):
        # It is all one which of two primes carries first.
        for level, one in WHOLE[:8]:
            p, q = serving(level, 20)[:2]
            rows = []
            for first, second in ((p, q), (q, p)):
                row = carried_row(level, one, first, 12 * second)
                weight, sign = kind_of(one, level)
                rows.append([row[second * n] + (symbol(sign, second) * second ** (weight - 1) * row[n // second]
                                                if n % second == 0 else 0) for n in range(12)])
            self.assertEqual(rows[0], rows[1])

    def test_wrong_values(self):
        fifteen = product((1, 1), (3, 1), (5, 1), (15, 1))
        self.same(carried_row(15, fifteen, 7, 3), plain_carried(15, fifteen, 7, 3))
        self.refused(InvalidLevel, WRONG_LEVELS, lambda value: carried_row(value, TAU, 3, 5))
        self.refused(InvalidProduct, WRONG_PRODUCTS, lambda value: carried_row(1, value, 3, 5))
        self.refused(InvalidPrime, WRONG_PRIMES, lambda value: carried_row(15, fifteen, value, 5))
        self.refused(InvalidMany, beyond(0, 3000), lambda value: carried_row(1, TAU, 3, value))
        self.told(InvalidLevel, {"value": 0}, carried_row, 0, None, 2, -1)
        self.told(InvalidProduct, {"value": None}, carried_row, 1, None, 2, -1)
        self.told(InvalidPrime, {"value": 2}, carried_row, 1, PARTS, 2, -1)
        self.told(InvalidMany, {"value": 3001}, carried_row, 1, PARTS, 3, 3001)


class TestSymbolsAndPlaces(Asking):
    def test_symbols(self):
        for level, one in WHOLE:
            for p in serving(level, 97):
                self.same(symbol_at(level, one, p), symbol(kind_of(one, level)[1], p))
        self.same([symbol_at(1, TAU, 3), symbol_at(4, SQUARES, 3), symbol_at(4, SQUARES, 5), symbol_at(23, LATE, 3), symbol_at(23, LATE, 5)],
                  [1, -1, 1, 1, -1])
        self.same([symbol_at(1, TAU, 97), symbol_at(23, LATE, 97)], [1, symbol(-23, 97)])

    def test_places(self):
        for level, one in WHOLE:
            self.same(places_asked(level, one), kind_of(one, level)[0] * plain_index(level) // 12)
        self.same([places_asked(1, TAU), places_asked(1, GREAT), places_asked(11, TWO), places_asked(23, LATE), places_asked(120, TAU)],
                  [1, 2, 2, 2, 288])
        self.same(places_asked(1, product((1, 24))), 1)

    def test_wrong_values(self):
        for call in (lambda level, one: symbol_at(level, one, 7), places_asked):
            self.refused(InvalidLevel, WRONG_LEVELS, lambda value: call(value, TAU))
            self.refused(InvalidProduct, WRONG_PRODUCTS, lambda value: call(1, value))
            self.told(InvalidLevel, {"value": 0}, call, 0, None)
        fifteen = product((1, 1), (3, 1), (5, 1), (15, 1))
        self.refused(InvalidPrime, WRONG_PRIMES, lambda value: symbol_at(15, fifteen, value))
        self.told(InvalidPrime, {"value": 2}, symbol_at, 1, PARTS, 2)


class TestStates(Asking):
    def calls(self):
        return (lambda level, one: placed_row(level, one, 5), lambda level, one: carried_row(level, one, 7, 5),
                lambda level, one: carried_row(level, one, 7, 3000), lambda level, one: symbol_at(level, one, 7), places_asked)

    def test_not_fitting(self):
        for call in self.calls():
            for level, one in ((1, PARTS), (1, EULER), (5, TWO), (1, product((1, 12))), (2, product((1, 12)))):
                self.told(NotFitting, {}, call, level, one)

    def test_not_carried(self):
        for call in self.calls():
            # Of the weights 0, -12 and 25.
            for level, one in ((1, product()), (1, product((1, -24))), (23, product((1, 25), (23, 25)))):
                self.told(NotCarried, {}, call, level, one)
            # An order below 0, at the end 1 and at the level itself.
            for one in (product((1, -40), (2, 56)), product((1, 56), (2, -40))):
                self.assertEqual(kind_of(one, 2), (8, 1))
                self.told(NotCarried, {}, call, 2, one)
        self.same([orders(product((1, -40), (2, 56)), 2), orders(product((1, 56), (2, -40)), 2)], [[(-1, 1), (3, 1)], [(3, 1), (-1, 1)]])
        self.same([orders(product((1, 25), (23, 25)), 23), kind_of(product((1, 25), (23, 25)), 23)], [[(25, 1), (25, 1)], (25, -23)])

    def test_weights_at_both_ends(self):
        self.same([kind_of(GREAT, 1), kind_of(LATE, 23), kind_of(SQUARES, 4)], [(24, 1), (1, -23), (1, -1)])
        self.same([places_asked(1, GREAT), places_asked(23, LATE), places_asked(4, SQUARES)], [2, 2, 0])

    def test_the_state_comes_ahead_of_too_many(self):
        self.told(NotCarried, {}, carried_row, 1, product(), 97, 3000)
        self.told(NotFitting, {}, carried_row, 1, PARTS, 97, 3000)


if __name__ == "__main__":
    unittest.main()
