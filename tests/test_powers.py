import unittest
from math import gcd

from asking import PARTS, WRONG_KINDS, Asking, beyond, kind, product
from counting import all_kinds, coloured_partitions, many_kinds

from etaparts.errors import InvalidKind, InvalidMany, InvalidPart
from etaparts.powers import as_product, kind_row, period, plain_kind_row, power_at, powers_row, unlike_place
from etaparts.series import product_row

PLAIN, ONCE, NONE = kind(1, (1, 0)), kind(1, (1, 1)), kind(1, (0, 0))
ODD, MIXED = kind(2, (0, 0), (1, 0)), kind(3, (2, 1), (1, 0), (1, 0))
GREATEST = kind(12, *[(6, rest % 6 + 1) for rest in range(12)])
SIX = kind(1, (6, 0))
KINDS = [PLAIN, ONCE, NONE, ODD, MIXED, SIX, GREATEST, kind(1, (6, 1)), kind(2, (1, 6), (0, 0)), kind(5, *[(1, 2)] * 5)]

# Its product has just 12 steps; the one of the other kind would have 13.
TWELVE = kind(12, (1, 2), (1, 0), (1, 1), (1, 2), (1, 3), (1, 0), (1, 4), (1, 0), (1, 3), (1, 2), (1, 1), (1, 0))
THIRTEEN = kind(12, (1, 0), (1, 1), (1, 3), (1, 0), (1, 4), (1, 1), (1, 2), (1, 1), (1, 4), (1, 0), (1, 3), (1, 1))


def plain_powers(one, many):
    """The powers at 0, 1, .., many: part by part."""
    modulus, rows = one[1:]
    powers = [0] * (many + 1)
    for part in range(1, many + 1):
        colours, most = rows[part % modulus]
        powers[part] -= colours
        if most > 0 and part * (most + 1) <= many:
            powers[part * (most + 1)] += colours
    return powers


class TestPowers(Asking):
    def test_powers(self):
        for one in KINDS + many_kinds(3):
            wanted = plain_powers(one, 400)[1:]
            self.same(powers_row(one, 400), wanted)
            for place in (1, 2, 7, 12, 84, 399, 400):
                self.same(power_at(one, place), wanted[place - 1])

    def test_edges(self):
        self.same(powers_row(PLAIN, 0), [])
        self.same(powers_row(PLAIN, 1), [-1])
        self.assertEqual(powers_row(GREATEST, 3000), plain_powers(GREATEST, 3000)[1:])
        self.same(power_at(GREATEST, 6000), plain_powers(GREATEST, 6000)[6000])
        self.same(power_at(ONCE, 1), -1)
        self.same(power_at(ONCE, 6000), 0)
        self.same(power_at(SIX, 6000), -6)
        # 84 is 7 times the part 12, that comes at most 6 times.
        twelves = kind(12, (5, 6), *[(0, 0)] * 11)
        self.same([power_at(twelves, place) for place in (1, 12, 24, 72, 84, 96, 168)], [0, -5, -5, -5, 0, -5, 0])

    def test_new_lists(self):
        self.new_each_time(powers_row, ONCE, 5)

    def test_wrong_values(self):
        self.refused(InvalidKind, WRONG_KINDS, lambda value: power_at(value, 1))
        self.refused(InvalidPart, beyond(1, 6000) + [-1], lambda value: power_at(PLAIN, value))
        self.told(InvalidKind, {"value": None}, power_at, None, 0)
        self.refused(InvalidKind, WRONG_KINDS, lambda value: powers_row(value, 1))
        self.refused(InvalidMany, beyond(0, 3000), lambda value: powers_row(PLAIN, value))
        self.told(InvalidKind, {"value": None}, powers_row, None, -1)


class TestPeriod(Asking):
    def test_periods(self):
        self.same(period(PLAIN), 1)
        self.same(period(NONE), 1)
        self.same(period(ONCE), 2)
        self.same(period(kind(1, (6, 6))), 7)
        self.same(period(ODD), 2)
        self.same(period(MIXED), 6)
        self.same(period(kind(2, (1, 1), (1, 2))), 12)
        self.same(period(kind(12, *[(1, 0)] * 12)), 12)
        self.same(period(kind(6, (1, 1), *[(1, 0)] * 5)), 12)
        self.same(period(kind(6, (1, 1), (1, 3), *[(1, 0)] * 4)), 24)
        self.same(period(GREATEST), 5040)

    def test_powers_come_again(self):
        for one in KINDS + many_kinds(2):
            length = period(one)
            if length < 3000:
                powers = powers_row(one, 3000)
                self.assertEqual(powers[length:], powers[:3000 - length])

    def test_wrong_kinds(self):
        self.refused(InvalidKind, WRONG_KINDS, period)


class TestRows(Asking):
    def test_against_listing(self):
        for one in KINDS + many_kinds(1):
            wanted = [len(coloured_partitions(one, n)) for n in range(7)]
            self.same(kind_row(one, 7), wanted)
            self.same(plain_kind_row(one, 7), wanted)
        self.same(kind_row(ONCE, 20), [len(coloured_partitions(ONCE, n)) for n in range(20)])

    def test_both_ways(self):
        for one in KINDS + many_kinds(3) + [TWELVE, THIRTEEN]:
            for many in (0, 1, 2, 50):
                self.same(kind_row(one, many), plain_kind_row(one, many))
        for one in (PLAIN, SIX, GREATEST, MIXED):
            self.assertEqual(kind_row(one, 300), plain_kind_row(one, 300))
            self.assertEqual(len(plain_kind_row(one, 300)), 300)

    def test_edges(self):
        self.same(kind_row(PLAIN, 0), [])
        self.same(plain_kind_row(PLAIN, 0), [])
        self.same(kind_row(PLAIN, 1), [1])
        self.same(plain_kind_row(NONE, 3), [1, 0, 0])
        self.assertEqual(kind_row(NONE, 3000), [1] + [0] * 2999)
        self.assertEqual(kind_row(PLAIN, 3000), product_row(PARTS, 3000))
        self.assertEqual(kind_row(SIX, 3000), product_row(product((1, -6)), 3000))

    def test_new_lists(self):
        self.new_each_time(kind_row, PLAIN, 4)
        self.new_each_time(plain_kind_row, PLAIN, 4)

    def test_wrong_values(self):
        for call, most in ((kind_row, 3000), (plain_kind_row, 300)):
            self.refused(InvalidKind, WRONG_KINDS, lambda value: call(value, 1))
            self.refused(InvalidMany, beyond(0, most), lambda value: call(PLAIN, value))
            self.told(InvalidKind, {"value": None}, call, None, -1)


class TestUnlikePlace(Asking):
    def test_against_the_rows(self):
        kinds = KINDS + many_kinds(1)
        for one in kinds:
            for other in kinds:
                found = unlike_place(one, other)
                row, another = plain_kind_row(one, 40), plain_kind_row(other, 40)
                places = [place for place in range(40) if row[place] != another[place]]
                self.same(found, places[0] if places else None)
                if found is not None:
                    less = power_at(other, found) - power_at(one, found)
                    self.assertEqual(row[found] - another[found], less)

    def test_alike_for_ever(self):
        # As many free of k as few by k; and one kind told by several moduli.
        for k in range(2, 8):
            free, few = kind(k, (0, 0), *[(1, 0)] * (k - 1)), kind(1, (1, k - 1))
            self.same(unlike_place(free, few), None)
            self.same(unlike_place(few, free), None)
            self.assertEqual(kind_row(free, 500), kind_row(few, 500))
        for modulus in range(1, 13):
            self.same(unlike_place(kind(modulus, *[(2, 3)] * modulus), kind(1, (2, 3))), None)
        self.same(unlike_place(GREATEST, GREATEST), None)

    def test_late_places(self):
        self.same(unlike_place(kind(12, (1, 6), *[(1, 0)] * 11), PLAIN), 84)
        self.same(unlike_place(PLAIN, kind(12, (1, 6), *[(1, 0)] * 11)), 84)
        self.same(unlike_place(kind(11, *[(1, 0)] * 10, (0, 0)), PLAIN), 10)
        self.same(unlike_place(kind(12, (0, 0), *[(1, 0)] * 11), PLAIN), 12)
        # Unlike behind both periods, 3 and 5.
        self.same(unlike_place(kind(3, (1, 0), (1, 0), (2, 0)), kind(5, (2, 0), (1, 0), (2, 0), (1, 0), (1, 0))), 7)

    def test_wrong_values(self):
        self.refused(InvalidKind, WRONG_KINDS, lambda value: unlike_place(value, PLAIN))
        self.refused(InvalidKind, WRONG_KINDS, lambda value: unlike_place(PLAIN, value))
        self.told(InvalidKind, {"value": 1}, unlike_place, 1, 2)


class TestAsProduct(Asking):
    def plain_product(self, one):
        """Step by step: what the powers to here are more than those of the lesser steps."""
        many = 2 * period(one)
        powers = plain_powers(one, max(many, 120))
        steps = []
        for place in range(1, len(powers)):
            power = powers[place] - sum(told for step, told in steps if place % step == 0)
            if power != 0:
                if place > 60 or len(steps) == 12:
                    return None
                steps.append((place, power))
        return product(*steps)

    def test_against_a_plain_way(self):
        for one in all_kinds(1) + KINDS + [TWELVE, THIRTEEN]:
            self.same(as_product(one), self.plain_product(one))
        for one in all_kinds(2)[::7] + [kind for kind in many_kinds(6) if period(kind) < 500]:
            self.same(as_product(one), self.plain_product(one))

    def test_by_the_divisors(self):
        for bounds in range(60):
            rows = {1: (1, bounds % 3), 2: (bounds % 4 + 1, bounds % 2), 3: (2, bounds % 5 // 2), 6: (1, bounds // 30)}
            one = kind(6, *[rows[gcd(rest, 6)] for rest in range(6)])
            found = as_product(one)
            self.same(found, self.plain_product(one))
            if found is not None:
                self.assertEqual(product_row(found, 60), kind_row(one, 60))

    def test_edges(self):
        self.same(as_product(NONE), product())
        self.same(as_product(SIX), product((1, -6)))
        self.same(as_product(kind(1, (6, 6))), product((1, -6), (7, 6)))
        self.same(as_product(kind(10, (1, 5), *[(0, 0)] * 9)), product((10, -1), (60, 1)))
        self.same(as_product(kind(10, (1, 6), *[(0, 0)] * 9)), None)
        self.same(as_product(kind(12, *[(0, 0)] * 11, (1, 0))), None)
        self.same(as_product(kind(12, (6, 0), *[(0, 0)] * 11)), product((12, -6)))
        self.same(as_product(kind(12, (3, 4), *[(0, 0)] * 11)), product((12, -3), (60, 3)))
        self.same(as_product(TWELVE), product((1, -1), (4, 1), (8, -1), (9, 1), (12, -1), (16, 1), (18, -1), (24, 1), (30, 1),
                                              (36, 1), (48, -1), (60, -1)))
        self.same(as_product(THIRTEEN), None)
        self.same(as_product(kind(3, (0, 0), (1, 0), (1, 1))), None)

    def test_their_numbers(self):
        for one in KINDS + [TWELVE]:
            found = as_product(one)
            if found is not None:
                self.assertEqual(product_row(found, 300), plain_kind_row(one, 300))

    def test_wrong_kinds(self):
        self.refused(InvalidKind, WRONG_KINDS, as_product)


if __name__ == "__main__":
    unittest.main()
