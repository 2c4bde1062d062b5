import unittest

from asking import NOT_INTEGERS, PARTS, TWELVE_STEPS, WRONG_LEVELS, WRONG_THINGS, Asking, beyond, product

from etaparts.divisorsums import divisor_row, own_level
from etaparts.ends import ends, order_at
from etaparts.errors import InvalidEnd, InvalidLevel, InvalidMany, InvalidThing, NotFitting
from etaparts.fitting import fits, kind_of
from etaparts.levels import shift_of
from etaparts.series import product_row
from etaparts.things import is_thing, thing_fits, thing_kind, thing_order, thing_row, thing_shift

GREAT, FOUR, ELEVEN = product((1, 24)), product((1, -4), (2, 10), (4, -4)), product((1, 2), (11, 2))
PRODUCTS = [product(), PARTS, GREAT, FOUR, ELEVEN, product((1, -24)), product((1, 1), (23, 1)), TWELVE_STEPS]
DIVISORS = [("divisors", word, step) for word, step in
            (("third", 1), ("third", 2), ("third", 40), ("quarter", 1), ("quarter", 30), ("two", 2), ("two", 7), ("two", 60),
             ("four", 1), ("four", 60), ("six", 1), ("six", 13), ("six", 60))]
KINDS = {"third": (1, -3), "quarter": (1, -1), "two": (2, 1), "four": (4, 1), "six": (6, 1)}


class TestThings(Asking):
    def test_is_thing(self):
        self.only_for(is_thing, PRODUCTS + DIVISORS, WRONG_THINGS)

    def test_fits(self):
        for level in range(1, 121):
            for one in PRODUCTS:
                self.same(thing_fits(one, level), fits(one, level))
            for one in DIVISORS:
                self.same(thing_fits(one, level), level % own_level(one) == 0)
        self.same([thing_fits(("divisors", "third", 2), level) for level in (1, 2, 3, 6, 12, 120)], [False] * 3 + [True] * 3)

    def test_kinds(self):
        for level in (1, 4, 6, 11, 12, 23, 60, 120):
            for one in PRODUCTS + DIVISORS:
                if not thing_fits(one, level):
                    self.told(NotFitting, {}, thing_kind, one, level)
                elif one[0] == "product":
                    self.same(thing_kind(one, level), kind_of(one, level))
                else:
                    self.same(thing_kind(one, level), KINDS[one[1]])
        self.same(thing_kind(("divisors", "third", 40), 120), (1, -3))
        self.same(thing_kind(("divisors", "two", 2), 2), (2, 1))

    def test_shifts(self):
        for one in PRODUCTS:
            self.same(thing_shift(one), shift_of(one))
        for one in DIVISORS:
            self.same(thing_shift(one), (0, 1))
        self.same(thing_shift(PARTS), (-1, 24))

    def test_rows(self):
        for many in (0, 1, 50):
            for one in PRODUCTS:
                self.same(thing_row(one, many), [(number, 1) for number in product_row(one, many)])
            for one in DIVISORS:
                self.same(thing_row(one, many), divisor_row(one, many))
        self.same(thing_row(GREAT, 3), [(1, 1), (-24, 1), (252, 1)])
        self.assertEqual(len(thing_row(product((60, 1)), 3000)), 3000)
        self.assertEqual(len(thing_row(("divisors", "six", 1), 3000)), 3000)
        self.too_many("digits", 400, thing_row, product((1, -60)), 3000)

    def test_orders(self):
        for level in (1, 4, 12, 11, 60, 120):
            for one in PRODUCTS + DIVISORS:
                for end, _, _ in ends(level):
                    if not thing_fits(one, level):
                        self.told(NotFitting, {}, thing_order, one, level, end)
                    elif one[0] == "product":
                        self.same(thing_order(one, level, end), order_at(one, level, end))
                    else:
                        self.same(thing_order(one, level, end), (0, 1))
        self.same([thing_order(GREAT, 2, 1), thing_order(GREAT, 2, 2), thing_order(FOUR, 4, 2)], [(2, 1), (1, 1), (1, 2)])

    def test_new_lists(self):
        self.new_each_time(thing_row, GREAT, 3)
        self.new_each_time(thing_row, ("divisors", "four", 1), 3)

    def test_wrong_values(self):
        for call, more in ((thing_fits, (1,)), (thing_kind, (1,)), (thing_shift, ()), (thing_row, (1,)), (thing_order, (1, 1))):
            self.refused(InvalidThing, WRONG_THINGS, lambda value: call(value, *more))
        for one in (GREAT, ("divisors", "four", 1)):
            for call, more in ((thing_fits, ()), (thing_kind, ()), (thing_order, (1,))):
                self.refused(InvalidLevel, WRONG_LEVELS, lambda value: call(one, value, *more))
            self.refused(InvalidMany, beyond(0, 3000), lambda value: thing_row(one, value))
            self.refused(InvalidEnd, NOT_INTEGERS + [0, -1, 2, 10 ** 29], lambda value: thing_order(one, 1, value))
            self.refused(InvalidEnd, NOT_INTEGERS + [0, -1, 5, 12, -6], lambda value: thing_order(one, 6, value))
        self.told(InvalidThing, {"value": None}, thing_order, None, 0, 0)
        self.told(InvalidLevel, {"value": 0}, thing_order, PARTS, 0, 0)
        self.told(InvalidEnd, {"value": 2}, thing_order, PARTS, 1, 2)
        self.told(InvalidThing, {"value": ("divisors", "two", 1)}, thing_kind, ("divisors", "two", 1), 0)
        self.told(InvalidThing, {"value": None}, thing_row, None, -1)
        self.told(InvalidMany, {"value": 3001}, thing_row, product((1, -60)), 3001)


if __name__ == "__main__":
    unittest.main()
