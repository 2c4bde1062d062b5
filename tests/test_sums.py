import unittest
from fractions import Fraction

from asking import (EULER, PARTS, TWELVE_STEPS, WRONG_LEVELS, WRONG_RATIOS, WRONG_SUMS, WRONG_THINGS, Asking, beyond, great,
                    pair, product)
from summing import EIGHT, GREAT, JACOBI, LATE, MINUS, THREE, TWELVE, TWO, a_sum, divisors, first_of, numbers_at

from etaparts.errors import InvalidLevel, InvalidMany, InvalidRatio, InvalidSum, InvalidTerms, NotFitting
from etaparts.sums import is_sum, sum_added, sum_less, sum_of, sum_row, sum_scaled
from etaparts.things import thing_row

EMPTY = ("sum", ())
NINE = [product((1, power)) for power in range(1, 10)]
EIGHT_TERMS = a_sum(*[((1, 1), thing) for thing in NINE[:8]])
MANY = [EMPTY, JACOBI, a_sum(((1, 2), PARTS)), a_sum(((1, 2), PARTS), ((1, 3), EULER)), a_sum(((-1, 1), LATE), ((-1, 2), MINUS)),
        a_sum(((5, 7), divisors("two", 4)), ((1, 1), THREE)), EIGHT_TERMS, a_sum(((-3, 4), TWELVE_STEPS), ((-1, 2), PARTS))]


def worths(total):
    return {thing: Fraction(*ratio) for ratio, thing in total[1]}


def made(found):
    """The sum of a dict of fractions."""
    return a_sum(*[(pair(ratio), thing) for thing, ratio in found.items() if ratio])


class TestIsSum(Asking):
    def test_is_sum(self):
        right = MANY + [a_sum(((10 ** 29, 1), PARTS)), a_sum(((-1, 10 ** 29), divisors("six", 60)))]
        self.only_for(is_sum, right, WRONG_SUMS + [("sum", (((1, 1), value),)) for value in WRONG_THINGS]
                      + [("sum", ((value, PARTS),)) for value in WRONG_RATIOS])

    def test_rising_as_tuples(self):
        # 1/3 is below 1/2, but (1, 2) is ahead of (1, 3).
        self.yes(is_sum(("sum", (((1, 2), PARTS), ((1, 3), EULER)))))
        self.no(is_sum(("sum", (((1, 3), EULER), ((1, 2), PARTS)))))
        self.yes(is_sum(("sum", (((-1, 2), PARTS), ((-1, 3), EULER), ((1, 9), THREE)))))
        self.yes(is_sum(("sum", (((1, 1), divisors("two", 4)), ((1, 1), PARTS), ((1, 1), EULER)))))
        self.no(is_sum(("sum", (((1, 1), PARTS), ((1, 1), divisors("two", 4))))))
        self.no(is_sum(("sum", (((1, 1), PARTS), ((2, 1), PARTS)))))

    def test_eight_terms_and_nine(self):
        self.yes(is_sum(EIGHT_TERMS))
        self.no(is_sum(a_sum(*[((1, 1), thing) for thing in NINE])))
        self.yes(is_sum(EMPTY))


class TestSumOf(Asking):
    def test_like_things_are_put_together(self):
        self.same(sum_of([((1, 1), THREE), ((-1, 1), MINUS), ((-16, 1), LATE)]), JACOBI)
        self.same(sum_of((((-16, 1), LATE), ((1, 1), THREE), ((-1, 1), MINUS))), JACOBI)
        self.same(sum_of([((1, 2), LATE), ((-1, 2), LATE)]), EMPTY)
        self.same(sum_of([((1, 2), LATE), ((1, 3), LATE), ((1, 6), LATE)]), a_sum(((1, 1), LATE)))
        self.same(sum_of([((1, 2), PARTS), ((1, 3), EULER), ((1, 6), PARTS)]), a_sum(((2, 3), PARTS), ((1, 3), EULER)))
        self.same(sum_of([((0, 1), PARTS)]), EMPTY)
        self.same(sum_of([]), EMPTY)
        self.same(sum_of(()), EMPTY)
        self.same(sum_of([((1, 1), divisors("two", 2)), ((0, 1), PARTS), ((2, 1), divisors("two", 2))]),
                  a_sum(((3, 1), divisors("two", 2))))
        for total in MANY:
            self.same(sum_of(total[1]), total)
            self.same(sum_of(list(total[1])[::-1]), total)

    def test_how_many_terms(self):
        self.same(sum_of([((1, 1), thing) for thing in NINE[:8]]), EIGHT_TERMS)
        self.too_many("terms", 8, sum_of, [((1, 1), thing) for thing in NINE])
        self.same(sum_of([((1, 1), thing) for thing in NINE] + [((-1, 1), NINE[8])]), EIGHT_TERMS)
        self.same(sum_of([((1, 1), thing) for thing in NINE[:8]] + [((0, 1), NINE[8])]), EIGHT_TERMS)
        self.same(sum_of([((1, 60), PARTS)] * 60), a_sum(((1, 1), PARTS)))
        self.told(InvalidTerms, {"value": [((1, 60), PARTS)] * 61}, sum_of, [((1, 60), PARTS)] * 61)
        self.told(InvalidTerms, {"value": (((0, 1), PARTS),) * 61}, sum_of, (((0, 1), PARTS),) * 61)
        self.same(sum_of([((1, 1), thing) for thing in NINE] * 3 + [((-3, 1), thing) for thing in NINE[2:]]),
                  a_sum(((3, 1), NINE[0]), ((3, 1), NINE[1])))

    def test_digits(self):
        # Unders of thirty digits without common divisors: the sum has one of more than 400.
        unders = [10 ** 29 + 1]
        while len(unders) < 20:
            unders.append(next(n for n in range(unders[-1] + 1, unders[-1] + 10 ** 6) if all(coprime(n, u) for u in unders)))
        self.too_many("digits", 400, sum_of, [((1, under), PARTS) for under in unders])
        told = sum((Fraction(1, under) for under in unders[:13]), Fraction(0))
        self.same(sum_of([((1, under), PARTS) for under in unders[:13]]), a_sum((pair(told), PARTS)))
        # They may be as long on the way.
        back = [((sign, under), PARTS) for sign in (1, -1) for under in unders]
        self.same(sum_of(back + [((1, 1), EULER)]), a_sum(((1, 1), EULER)))

    def test_wrong_values(self):
        wrong = [True, None, 0, 1, "", "ab", b"ab", {}, {PARTS: (1, 1)}, object(), [None], [()], [((1, 1),)], [PARTS], PARTS,
                 [((1, 1), PARTS, PARTS)], [[(1, 1), PARTS]], [(PARTS, (1, 1))], [((1, 1), PARTS), None], JACOBI,
                 [((1, 1), PARTS), ((1, 1), ())], [(1, PARTS)], [((True, 1), PARTS)], [((1, 1), product((1, True)))]]
        wrong += [[(value, PARTS)] for value in WRONG_RATIOS] + [[((1, 1), value)] for value in WRONG_THINGS]
        self.refused(InvalidTerms, wrong, sum_of)


def coprime(one, other):
    while other:
        one, other = other, one % other
    return one == 1


class TestReckoning(Asking):
    def test_added_less_and_scaled(self):
        for total in MANY:
            for other in MANY:
                one, another = worths(total), worths(other)
                things = list(one) + [thing for thing in another if thing not in one]
                plus = {thing: one.get(thing, Fraction(0)) + another.get(thing, Fraction(0)) for thing in things}
                minus = {thing: one.get(thing, Fraction(0)) - another.get(thing, Fraction(0)) for thing in things}
                for call, told in ((sum_added, plus), (sum_less, minus)):
                    if len([thing for thing in told if told[thing]]) > 8:
                        self.too_many("terms", 8, call, total, other)
                    else:
                        self.same(call(total, other), made(told))
            for ratio in ((0, 1), (1, 1), (-1, 1), (2, 3), (-7, 2), (10 ** 29, 3)):
                told = {thing: worth * Fraction(*ratio) for thing, worth in worths(total).items()}
                self.same(sum_scaled(total, ratio), made(told))

    def test_known(self):
        self.same(sum_less(JACOBI, JACOBI), EMPTY)
        self.same(sum_added(EMPTY, EMPTY), EMPTY)
        self.same(sum_less(EMPTY, JACOBI), sum_scaled(JACOBI, (-1, 1)))
        self.same(sum_scaled(JACOBI, (-1, 1)), ("sum", (((-1, 1), THREE), ((1, 1), MINUS), ((16, 1), LATE))))
        self.same(sum_scaled(a_sum(((1, 1), LATE)), (-16, 1)), ("sum", JACOBI[1][:1]))
        # What was rising may fall when it is scaled.
        self.same(sum_scaled(a_sum(((1, 2), PARTS), ((1, 3), EULER)), (6, 1)), a_sum(((2, 1), EULER), ((3, 1), PARTS)))

    def test_terms_and_digits(self):
        self.too_many("terms", 8, sum_added, EIGHT_TERMS, a_sum(((1, 1), NINE[8])))
        self.too_many("terms", 8, sum_less, a_sum(((1, 1), NINE[8])), EIGHT_TERMS)
        self.same(sum_less(sum_of([((2, 1), thing) for thing in NINE[:8]]), EIGHT_TERMS), EIGHT_TERMS)
        long = sum_of([(great(19), PARTS)])
        self.same(sum_scaled(long, (10 ** 19, 1)), a_sum(((10 ** 399, 1), PARTS)))
        self.too_many("digits", 400, sum_scaled, long, (10 ** 20, 1))
        self.too_many("digits", 400, sum_scaled, sum_scaled(long, (9 * 10 ** 19, 1)), great(1))
        half = sum_scaled(long, (5 * 10 ** 19, 1))
        self.too_many("digits", 400, sum_added, half, half)
        self.same(sum_less(half, half), EMPTY)
        self.same(sum_scaled(long, (0, 1)), EMPTY)
        small = sum_scaled(sum_of([((1, 10 ** 20), PARTS)]), (1, 10 ** 29))
        self.same(small, a_sum(((1, 10 ** 49), PARTS)))
        for _ in range(12):
            small = sum_scaled(small, (1, 10 ** 29))
        self.too_many("digits", 400, sum_scaled, small, (1, 10 ** 29))

    def test_wrong_values(self):
        for call in (sum_added, sum_less):
            self.refused(InvalidSum, WRONG_SUMS, lambda value: call(value, JACOBI))
            self.refused(InvalidSum, WRONG_SUMS, lambda value: call(EIGHT_TERMS, value))
            self.told(InvalidSum, {"value": None}, call, None, True)
        self.refused(InvalidSum, WRONG_SUMS, lambda value: sum_scaled(value, (1, 1)))
        self.refused(InvalidRatio, WRONG_RATIOS, lambda value: sum_scaled(JACOBI, value))
        self.told(InvalidSum, {"value": None}, sum_scaled, None, (2, 2))
        self.told(InvalidRatio, {"value": (0, 2)}, sum_scaled, EMPTY, (0, 2))


FITTING = [(4, JACOBI), (4, a_sum(((1, 2), LATE))), (4, a_sum(((1, 1), TWO), ((-1, 1), divisors("quarter", 1)))), (7, EMPTY),
           (4, a_sum(((2, 3), EIGHT), ((1, 5), divisors("four", 1)), ((-1, 7), divisors("four", 4)))), (1, a_sum(((5, 1), GREAT))),
           (6, a_sum(((1, 3), divisors("two", 6)), ((2, 1), divisors("two", 3)), ((2, 5), divisors("two", 2)))), (1, EMPTY),
           (2, a_sum(((1, 1), product((1, -24), (2, 24))), ((1, 2), product((1, 24), (2, -24))), ((3, 1), product()))),
           (4, a_sum(((1, 1), TWELVE), ((-7, 3), divisors("six", 2)), ((1, 1), product((2, 12)))))]


class TestSumRow(Asking):
    def test_against_the_words(self):
        for level, total in FITTING:
            for many in (0, 1, 20):
                first = first_of(total)
                told = [pair(number) for number in numbers_at(total, range(first, first + many))]
                self.same(sum_row(level, total, many), (first, told))

    def test_of_one_thing(self):
        for level, thing in ((4, THREE), (4, LATE), (4, divisors("two", 4)), (12, divisors("third", 2)), (1, GREAT)):
            self.same(sum_row(level, a_sum(((1, 1), thing)), 300)[1], thing_row(thing, 300))

    def test_known(self):
        self.same(sum_row(4, JACOBI, 3), (0, [(0, 1), (0, 1), (0, 1)]))
        self.same(sum_row(4, JACOBI, 300), (0, [(0, 1)] * 300))
        self.same(sum_row(4, a_sum(((-1, 1), MINUS), ((1, 1), THREE)), 2), (0, [(0, 1), (16, 1)]))
        self.same(sum_row(4, a_sum(((-16, 1), LATE)), 1), (1, [(-16, 1)]))
        self.same(sum_row(120, EMPTY, 3), (0, [(0, 1)] * 3))
        self.same(sum_row(2, a_sum(((1, 1), product((1, 24), (2, -24)))), 3), (-1, [(1, 1), (-24, 1), (276, 1)]))

    def test_things_that_begin_beyond_the_row(self):
        # At the level 60 the last one begins at the place 60.
        total = a_sum(((1, 1), GREAT), ((2, 1), product((60, 24))))
        self.same(sum_row(60, total, 1), (1, [(1, 1)]))
        self.same(sum_row(60, total, 59)[1], thing_row(GREAT, 59))
        self.same(sum_row(60, total, 60)[1][59], (thing_row(GREAT, 60)[59][0] + 2, 1))

    def test_digits(self):
        long = (9 * 10 ** 399, 1)
        self.assertEqual(sum_scaled(sum_of([(great(19), THREE)]), (9 * 10 ** 19, 1)), a_sum((long, THREE)))
        self.same(sum_row(4, a_sum((long, THREE)), 1), (0, [long]))
        self.too_many("digits", 400, sum_row, 4, a_sum((long, THREE)), 2)
        self.too_many("digits", 400, sum_row, 4, a_sum((long, THREE), (long, MINUS)), 1)

    def test_not_fitting(self):
        self.told(NotFitting, {}, sum_row, 1, a_sum(((1, 1), PARTS)), 2)
        self.told(NotFitting, {}, sum_row, 2, JACOBI, 2)
        self.told(NotFitting, {}, sum_row, 3, a_sum(((1, 1), divisors("two", 2))), 2)
        self.told(NotFitting, {}, sum_row, 4, a_sum(((1, 1), TWO), ((1, 1), THREE)), 2)
        self.told(NotFitting, {}, sum_row, 12, a_sum(((1, 1), divisors("third", 1)), ((1, 1), divisors("quarter", 1))), 2)
        self.told(NotFitting, {}, sum_row, 2, a_sum(((1, 1), divisors("two", 2)), ((1, 1), divisors("four", 2))), 2)

    def test_new_lists(self):
        first = sum_row(4, JACOBI, 3)
        self.assertIs(type(first[1]), list)
        first[1][0] = None
        self.same(sum_row(4, JACOBI, 3), (0, [(0, 1)] * 3))

    def test_wrong_values(self):
        self.refused(InvalidLevel, WRONG_LEVELS, lambda value: sum_row(value, EMPTY, 2))
        self.refused(InvalidSum, WRONG_SUMS, lambda value: sum_row(4, value, 2))
        self.refused(InvalidMany, beyond(0, 300), lambda value: sum_row(4, JACOBI, value))
        self.told(InvalidLevel, {"value": 0}, sum_row, 0, None, -1)
        self.told(InvalidSum, {"value": None}, sum_row, 1, None, -1)
        self.told(InvalidMany, {"value": 301}, sum_row, 1, JACOBI, 301)


if __name__ == "__main__":
    unittest.main()
