import unittest
from fractions import Fraction
from math import floor

from asking import NOT_TUPLES, PARTS, WRONG_LEVELS, WRONG_THINGS, Asking, pair, product
from summing import (EIGHT, FAR, GREAT, JUST_NEAR, LATE, MINUS, THREE, TOO_FAR, TWELVE, TWO, a_sum, divisors, numbers_at,
                     plain_bound, shift_at)

from etaparts.combined import hang_on, relations, told_as
from etaparts.equal import same_for_ever
from etaparts.errors import InvalidLevel, InvalidThing, InvalidThings, NotFitting
from etaparts.fitting import fitting_products, kind_of
from etaparts.products import product_times
from etaparts.sums import sum_of, sum_scaled

FOURS = [divisors("four", 1), divisors("four", 2), divisors("four", 4)]
SIXES = [divisors("six", 1), divisors("six", 2), divisors("six", 4)]
HALF = product((2, 12))


def plain_relations(level, things):
    """By the numbers at all places to the bound, eliminated by fractions."""
    first = min(shift_at(thing) for thing in things)
    places = range(first, floor(plain_bound(level, things)) + 1)
    rows = [numbers_at(a_sum(((1, 1), thing)), places) for thing in things]
    found, free = [], []
    for position, row in enumerate(rows):
        solved = solution([rows[k] for k in free], row)
        if solved is None:
            free.append(position)
        else:
            by_position = dict(zip(free, solved))
            found.append((position, [pair(Fraction(by_position.get(k, 0))) for k in range(position)]))
    return found


def solution(rows, wanted):
    """The fractions by which independent rows come to the wanted one, None if there are none."""
    lines = [list(column) for column in zip(*rows, wanted)]
    pivots = 0
    for k in range(len(rows)):
        at = next(i for i in range(pivots, len(lines)) if lines[i][k] != 0)
        lines[pivots], lines[at] = lines[at], lines[pivots]
        lines[pivots] = [x / lines[pivots][k] for x in lines[pivots]]
        for i in range(len(lines)):
            if i != pivots and lines[i][k] != 0:
                lines[i] = [x - lines[i][k] * y for x, y in zip(lines[i], lines[pivots])]
        pivots += 1
    if any(line[-1] for line in lines[pivots:]):
        return None
    return [line[-1] for line in lines[:pivots]]


class TestToldAs(Asking):
    def test_squares_as_divisor_sums(self):
        # Two, four and eight squares, for ever; twelve with one product more.
        self.same(told_as(4, TWO, [divisors("quarter", 1)]), [(1, 1)])
        self.same(told_as(4, THREE, [divisors("two", 4)]), [(1, 1)])
        self.same(told_as(4, EIGHT, FOURS), [(1, 15), (-2, 15), (16, 15)])
        self.same(told_as(4, TWELVE, SIXES), None)
        self.same(told_as(4, TWELVE, SIXES + [HALF]), [(-1, 63), (0, 1), (64, 63), (16, 1)])
        self.same(told_as(4, TWELVE, (HALF,) + tuple(SIXES)), [(16, 1), (-1, 63), (0, 1), (64, 63)])
        self.same(told_as(4, divisors("two", 4), [THREE]), [(1, 1)])
        self.same(told_as(4, divisors("two", 4), [MINUS, LATE, divisors("two", 2)]), [(1, 1), (16, 1), (0, 1)])

    def test_known(self):
        self.same(told_as(4, THREE, [MINUS, LATE]), [(1, 1), (16, 1)])
        self.same(told_as(4, THREE, [LATE, MINUS]), [(16, 1), (1, 1)])
        self.same(told_as(4, THREE, [MINUS]), None)
        self.same(told_as(4, THREE, [LATE]), None)
        self.same(told_as(2, product((1, 16), (2, -8)), FOURS[:2]), [(-1, 15), (16, 15)])
        self.same(told_as(2, product((1, -8), (2, 16)), FOURS[:2]), [(1, 240), (-1, 240)])
        self.same(told_as(9, product((1, 3), (3, -1)), [divisors("third", 1), divisors("third", 3)]), [(-1, 2), (3, 2)])
        self.same(told_as(9, product((3, -1), (9, 3)), [divisors("third", 1), divisors("third", 3)]), [(1, 6), (-1, 6)])
        self.same(told_as(1, divisors("six", 1), [divisors("six", 1)]), [(1, 1)])

    def test_those_that_hang_have_nought(self):
        self.same(told_as(4, THREE, [MINUS, LATE, divisors("two", 4)]), [(1, 1), (16, 1), (0, 1)])
        self.same(told_as(4, THREE, [divisors("two", 4), MINUS, LATE]), [(1, 1), (0, 1), (0, 1)])
        self.same(told_as(4, THREE, [MINUS, LATE, THREE]), [(1, 1), (16, 1), (0, 1)])
        self.same(told_as(4, THREE, [THREE, MINUS, LATE]), [(1, 1), (0, 1), (0, 1)])
        self.same(told_as(4, MINUS, [THREE, divisors("two", 4), LATE]), [(1, 1), (0, 1), (-16, 1)])
        self.same(told_as(4, divisors("two", 4), [divisors("two", 2), MINUS, LATE]), [(1, 2), (1, 2), (0, 1)])

    def test_one_and_seven_others(self):
        seven = fitting_products(4, 2, 20)
        self.assertEqual(len(seven), 7)
        self.same(told_as(4, divisors("two", 4), seven)[-1], (0, 1))
        self.told(InvalidThings, {"value": seven + [divisors("two", 2)]}, told_as, 4, THREE, seven + [divisors("two", 2)])
        self.told(InvalidThings, {"value": []}, told_as, 4, THREE, [])

    def test_against_the_rows(self):
        for level, things in families():
            told = dict(plain_relations(level, things)).get(len(things) - 1)
            self.same(told_as(level, things[-1], things[:-1]), told)
            if told is not None:
                others = sum_of(list(zip(told, things[:-1])))
                self.yes(same_for_ever(level, sum_of([((1, 1), things[-1])]), others))

    def test_new_lists(self):
        self.new_each_time(told_as, 4, THREE, [MINUS, LATE])

    def test_wrong_values(self):
        self.refused(InvalidLevel, WRONG_LEVELS, lambda value: told_as(value, THREE, [MINUS]))
        self.refused(InvalidThing, WRONG_THINGS, lambda value: told_as(4, value, [MINUS]))
        self.refused(InvalidThings, wrong_lists(7), lambda value: told_as(4, THREE, value))
        self.told(InvalidLevel, {"value": 0}, told_as, 0, None, None)
        self.told(InvalidThing, {"value": None}, told_as, 1, None, [])
        self.told(InvalidThings, {"value": [MINUS, MINUS]}, told_as, 1, THREE, [MINUS, MINUS])


def families():
    """Levels, each with some things of one kind."""
    for level, weight, most, more in ((4, 2, 20, [divisors("two", 2), divisors("two", 4)]), (2, 4, 24, FOURS[:2]),
                                      (6, 2, 9, [divisors("two", 6), divisors("two", 3)]), (9, 1, 6, [divisors("third", 3)]),
                                      (4, 6, 18, SIXES[1:]), (8, 1, 4, [])):
        kinds = {}
        for one in fitting_products(level, weight, most):
            kinds.setdefault(kind_of(one, level), []).append(one)
        for (_, sign), together in kinds.items():
            some = together[::2] + (more if sign == 1 or weight == 1 and sign == -3 else []) + together[1::2]
            for start in range(0, len(some), 3):
                for many in (2, 4, 8):
                    if len(some[start:start + many]) >= 2:
                        yield level, some[start:start + many]


def wrong_lists(most):
    many = [product((1, power)) for power in range(1, most + 2)]
    return NOT_TUPLES[:-2] + [
        [], (), THREE, divisors("two", 4), [None], ["product"], [THREE, None], [[THREE]], ((THREE,),), {THREE: 1}, {THREE},
        [THREE, THREE], (MINUS, THREE, MINUS), many, tuple(many), [THREE, product((1, True))], [((1, 1), THREE)],
    ] + [[MINUS, value] for value in WRONG_THINGS]


class TestHanging(Asking):
    def test_known(self):
        self.same(hang_on(4, [MINUS, LATE, THREE]), [2])
        self.same(hang_on(4, [THREE]), [])
        self.same(relations(4, [THREE]), [])
        self.same(relations(4, [LATE, MINUS, THREE]), [(2, [(16, 1), (1, 1)])])
        self.same(relations(4, (MINUS, LATE, THREE)), [(2, [(1, 1), (16, 1)])])
        self.same(hang_on(1, [GREAT]), [])
        self.same(hang_on(4, FOURS), [])
        self.same(hang_on(4, FOURS + [EIGHT]), [3])

    def test_each_on_those_ahead_of_it(self):
        things = [MINUS, LATE, THREE, divisors("two", 4), divisors("two", 2)]
        self.same(hang_on(4, things), [2, 3, 4])
        told = relations(4, things)
        self.same(told[:2], [(2, [(1, 1), (16, 1)]), (3, [(1, 1), (16, 1), (0, 1)])])
        # Twice as much at the level 2: 1 + 24 q + .. is the first one and 32 times the second one.
        self.same(told[2], (4, [(1, 1), (32, 1), (0, 1), (0, 1)]))
        self.same(hang_on(4, [THREE, divisors("two", 4), MINUS, LATE]), [1, 3])

    def test_eight_things(self):
        eight = fitting_products(6, 2, 9)[:8]
        self.assertEqual(len(eight), 8)
        self.same(relations(6, eight), plain_relations(6, eight))
        nine = fitting_products(6, 2, 9)[:9]
        for call in (hang_on, relations):
            self.told(InvalidThings, {"value": nine}, call, 6, nine)

    def test_against_the_rows(self):
        hanging = 0
        for level, things in families():
            told = plain_relations(level, things)
            hanging += len(told)
            self.same(relations(level, things), told)
            self.same(hang_on(level, things), [position for position, _ in told])
            for position, ratios in told:
                others = sum_of(list(zip(ratios, things[:position])))
                self.yes(same_for_ever(level, sum_of([((1, 1), things[position])]), others))
                for other, _ in told:
                    if other < position:
                        self.same(ratios[other], (0, 1))
        self.assertGreater(hanging, 20)

    def test_new_lists(self):
        self.new_each_time(hang_on, 4, [MINUS, LATE, THREE])
        self.new_each_time(relations, 4, [MINUS, LATE, THREE])
        relations(4, [MINUS, LATE, THREE])[0][1][0] = None
        self.same(relations(4, [MINUS, LATE, THREE]), [(2, [(1, 1), (16, 1)])])

    def test_wrong_values(self):
        for call in (hang_on, relations):
            self.refused(InvalidLevel, WRONG_LEVELS, lambda value: call(value, [MINUS]))
            self.refused(InvalidThings, wrong_lists(8), lambda value: call(4, value))
            self.told(InvalidLevel, {"value": 0}, call, 0, None)
            self.told(InvalidThings, {"value": [THREE, THREE]}, call, 1, [THREE, THREE])


class TestStates(Asking):
    def test_not_fitting(self):
        for things in ([PARTS, EIGHT], [EIGHT, PARTS], [TWO, THREE], [THREE, divisors("four", 1)], [divisors("two", 3), THREE]):
            self.told(NotFitting, {}, told_as, 4, things[0], things[1:])
            self.told(NotFitting, {}, hang_on, 4, things)
            self.told(NotFitting, {}, relations, 4, things)
        self.told(NotFitting, {}, told_as, 2, THREE, [MINUS, LATE])
        self.told(NotFitting, {}, hang_on, 1, [PARTS])

    def test_places(self):
        self.same(hang_on(120, [FAR, JUST_NEAR]), [])
        self.same(told_as(120, JUST_NEAR, [FAR]), None)
        self.too_many("places", 3000, hang_on, 120, [FAR, TOO_FAR])
        self.too_many("places", 3000, relations, 120, [TOO_FAR, FAR])
        self.too_many("places", 3000, told_as, 120, FAR, [TOO_FAR])
        # The bound is that of all things together.
        self.too_many("places", 3000, told_as, 120, FAR, [FAR, TOO_FAR])
        self.same(told_as(120, FAR, [FAR]), [(1, 1)])

    def test_scaled_and_multiplied(self):
        # What hangs so hangs so behind a product with each thing, as well.
        for more in (product((1, 24)), product((2, 24), (4, -24)), product((1, -24), (4, 24))):
            things = [product_times(thing, more) for thing in (MINUS, LATE, THREE)]
            self.same(relations(4, things), [(2, [(1, 1), (16, 1)])])
        self.yes(same_for_ever(4, sum_scaled(sum_of([((1, 1), THREE)]), (3, 7)),
                               sum_of([((3, 7), MINUS), ((48, 7), LATE)])))


if __name__ == "__main__":
    unittest.main()
