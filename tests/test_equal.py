import unittest
from fractions import Fraction
from math import floor

from asking import PARTS, WRONG_LEVELS, WRONG_RATIOS, WRONG_SUMS, Asking, great, pair, product
from summing import (EIGHT, FAR, GREAT, JACOBI, JUST_NEAR, LATE, MINUS, THREE, TOO_FAR, TWELVE, TWO, a_sum, divisors,
                     first_of, numbers_at, plain_bound, plain_decided)

from etaparts.bounds import bound_of
from etaparts.equal import decided_nought, decided_same, is_nought, is_nought_paper, same_for_ever
from etaparts.errors import InvalidLevel, InvalidSum, NotFitting
from etaparts.fitting import fitting_products, kind_of
from etaparts.products import product_times
from etaparts.ratios import times
from etaparts.series import numbers_of
from etaparts.sums import sum_added, sum_less, sum_of, sum_row, sum_scaled

EMPTY = ("sum", ())
# Sums that are nought, each with a level.
FOURS = a_sum(((1, 1), EIGHT), ((-1, 15), divisors("four", 1)), ((2, 15), divisors("four", 2)),
              ((-16, 15), divisors("four", 4)))
SIXES = a_sum(((1, 1), TWELVE), ((1, 63), divisors("six", 1)), ((-64, 63), divisors("six", 4)), ((-16, 1), product((2, 12))))
NOUGHTS = [(1, EMPTY), (120, EMPTY), (4, JACOBI), (8, JACOBI), (60, JACOBI), (4, FOURS), (12, FOURS), (4, SIXES),
           (4, a_sum(((1, 1), TWO), ((-1, 1), divisors("quarter", 1)))), (4, a_sum(((1, 1), divisors("two", 4)), ((-1, 1), THREE))),
           (2, a_sum(((1, 1), product((1, 16), (2, -8))), ((1, 15), divisors("four", 1)), ((-16, 15), divisors("four", 2)))),
           (9, a_sum(((1, 1), product((3, -1), (9, 3))), ((-1, 6), divisors("third", 1)), ((1, 6), divisors("third", 3))))]
OTHERS = [(1, a_sum(((3, 7), GREAT))), (4, ("sum", JACOBI[1][1:])), (4, a_sum(((-1, 1), MINUS), ((1, 1), THREE))),
          (60, a_sum(((1, 1), GREAT), ((1, 1), product((60, 24))))), (4, sum_added(JACOBI, a_sum(((1, 2), LATE)))),
          (2, a_sum(((1, 1), product((1, -24), (2, 24))), ((-1, 1), product((1, 24), (2, -24))))),
          (4, sum_less(FOURS, a_sum(((1, 9), divisors("four", 4))))), (6, a_sum(((1, 1), divisors("two", 6)))),
          (6, a_sum(((1, 1), divisors("two", 6)), ((-1, 1), divisors("two", 3))))]


def families():
    """Levels, each with sums of some products of one kind, by a fixed rule."""
    for level, weight, most in ((2, 4, 24), (4, 2, 12), (6, 1, 6), (6, 2, 8), (9, 2, 12), (12, 1, 2)):
        kinds = {}
        for one in fitting_products(level, weight, most):
            kinds.setdefault(kind_of(one, level), []).append(one)
        for together in kinds.values():
            for start in range(0, len(together), 5):
                some = together[start:start + 4]
                yield level, sum_of([(pair(Fraction(7 * k - 9, k + 2)), one) for k, one in enumerate(some)])
                yield level, sum_of([((1, 1), some[0])] + [((-1, 1), one) for one in some[1:2]])


class TestDecided(Asking):
    def test_noughts(self):
        for level, total in NOUGHTS:
            bound = pair(plain_bound(level, [thing for _, thing in total[1]]))
            self.same(decided_nought(level, total), ("nought", level, bound))
            self.yes(is_nought(level, total))
            self.yes(is_nought_paper(level, total, ("nought", level, bound)))
            self.assertFalse(any(number for number, _ in sum_row(level, total, 300)[1]))
        self.same(decided_nought(4, JACOBI), ("nought", 4, (1, 1)))
        self.same(decided_nought(7, EMPTY), ("nought", 7, (0, 1)))

    def test_others(self):
        for level, total in OTHERS + list(families()):
            told = plain_decided(level, total)
            self.assertEqual(told[0], "place")
            self.same(decided_nought(level, total), told)
            self.no(is_nought(level, total))
            self.yes(is_nought_paper(level, total, told))
            first, row = sum_row(level, total, told[1] - first_of(total) + 1)
            self.assertEqual(row, [(0, 1)] * (told[1] - first) + [told[2]])

    def test_just_at_the_bound(self):
        # The first number that is not 0 stands just at the bound.
        squared = a_sum(((1, 1), EIGHT), ((-1, 1), product_times(MINUS, MINUS)), ((-32, 1), product_times(MINUS, LATE)))
        for level, total in ((4, ("sum", JACOBI[1][1:])), (1, a_sum(((1, 1), GREAT))), (12, a_sum(((-2, 3), GREAT))),
                             (4, squared)):
            bound = plain_bound(level, [thing for _, thing in total[1]])
            _, place, value = decided_nought(level, total)
            self.assertEqual(place, bound)
            self.yes(is_nought_paper(level, total, ("place", place, value)))
            self.no(is_nought_paper(level, total, ("nought", level, pair(bound))))
        self.same(decided_nought(4, squared), ("place", 2, (256, 1)))

    def test_bounds_of_products(self):
        for level, total in list(families())[::3]:
            things = [thing for _, thing in total[1]]
            bound = bound_of(level, things)
            self.assertEqual(Fraction(*bound), plain_bound(level, things))
            self.no(is_nought_paper(level, total, ("nought", level, bound)))

    def test_each_number_to_the_bound_is_looked_at(self):
        # Terms that are nought together, and one thing more that comes late.
        for level, late, place in ((24, product((12, 12)), 6), (120, product((60, 12)), 30), (120, product((20, 6), (60, 6)), 20)):
            total = sum_added(SIXES, a_sum(((2, 7), late)))
            self.same(decided_nought(level, SIXES)[0], "nought")
            self.same(decided_nought(level, total), ("place", place, (2, 7)))

    def test_a_row_of_many_places(self):
        # Both multiplied by the same product: the noughts stay so, between things that stand far apart.
        apart = [product((1, 24), (2, -24), (3, 24), (4, -24)), product((1, -24), (2, 24), (3, -24), (4, 24))]
        terms = [(ratio, product_times(thing, more)) for more in apart for ratio, thing in JACOBI[1]]
        total = sum_of(terms)
        self.assertEqual(len(total[1]), 6)
        bound = plain_bound(12, [thing for _, thing in terms])
        self.assertGreater(floor(bound) - first_of(total), 40)
        self.same(decided_nought(12, total), ("nought", 12, pair(bound)))
        self.same(decided_nought(12, sum_added(total, a_sum(((1, 1), terms[0][1]))))[0], "place")

    def test_not_fitting(self):
        unlike = a_sum(((1, 1), TWO), ((1, 1), THREE))
        for call in (decided_nought, is_nought, lambda level, total: is_nought_paper(level, total, None)):
            self.told(NotFitting, {}, call, 1, a_sum(((1, 1), PARTS)))
            self.told(NotFitting, {}, call, 2, JACOBI)
            self.told(NotFitting, {}, call, 4, unlike)
            self.told(NotFitting, {}, call, 3, a_sum(((1, 1), divisors("two", 2))))

    def test_wrong_values(self):
        for call in (decided_nought, is_nought, lambda level, total: is_nought_paper(level, total, None)):
            self.refused(InvalidLevel, WRONG_LEVELS, lambda value: call(value, EMPTY))
            self.refused(InvalidSum, WRONG_SUMS, lambda value: call(4, value))
            self.told(InvalidLevel, {"value": 0}, call, 0, None)
            self.told(InvalidSum, {"value": None}, call, 2, None)


class TestPapers(Asking):
    def test_nought_papers(self):
        for level, total in NOUGHTS:
            _, _, (number, under) = decided_nought(level, total)
            wrong = [("nought", level + 1, (number, under)), ("nought", level, (number + under, under)), ("nought", level),
                     ("nought", level, (number, under), 0), ["nought", level, (number, under)], ("Nought", level, (number, under)),
                     ("place", level, (number, under)), ("nought", level, [number, under]), ("nought", (number, under), level),
                     ("nought", level, (2 * number, 2 * under)), ("nought", level, number), ("nought", str(level), (number, under)),
                     ("nought", [level], (number, under)), ("nought", None, (number, under)), ("nought", level, None),
                     (b"nought", level, (number, under)), ("nought", level, (number, True)), ("nought", -level, (number, under))]
            for value in wrong + [("nought", level, ratio) for ratio in WRONG_RATIOS]:
                self.no(is_nought_paper(level, total, value))
            for place in (-1, 0, 1, 5, 2999, 3000):
                for ratio in ((0, 1), (1, 1), (-1, 1)):
                    self.no(is_nought_paper(level, total, ("place", place, ratio)))
        # True is not 1.
        self.yes(is_nought_paper(1, EMPTY, ("nought", 1, (0, 1))))
        self.no(is_nought_paper(1, EMPTY, ("nought", True, (0, 1))))
        self.no(is_nought_paper(1, EMPTY, ("nought", 1, (False, 1))))
        self.no(is_nought_paper(4, JACOBI, ("nought", 4, (True, 1))))
        self.no(is_nought_paper(4, JACOBI, ("nought", 4, (2, 1))))
        self.no(is_nought_paper(4, JACOBI, ("nought", 8, (1, 1))))

    def test_place_papers(self):
        for level, total in OTHERS:
            first = first_of(total)
            places = range(first - 2, first + 12)
            for place, number in zip(places, numbers_at(total, places)):
                # Each place with a number is one, also above the bound.
                self.same(is_nought_paper(level, total, ("place", place, pair(number))), number != 0)
                self.no(is_nought_paper(level, total, ("place", place, pair(number + 1))))
                self.no(is_nought_paper(level, total, ("place", place, (0, 1))))
            place, number = decided_nought(level, total)[1:]
            for value in (("place", place), ("place", place, number, number), ["place", place, number], ("Place", place, number),
                          ("nought", place, number), ("place", number, place), ("place", str(place), number), ("place", None, number),
                          ("place", place, number[0]), ("place", place, list(number)), ("place", place, None), (), None, True,
                          ("place", place, (2 * number[0], 2 * number[1])), ("place", place, (-number[0], number[1])), 0, "place",
                          ("place", place, (number[0], -number[1])), ("place", (place,), number), {"place": place}, [], object()):
                self.no(is_nought_paper(level, total, value))
        # True and False are no places.
        total = a_sum(((1, 1), THREE))
        self.yes(is_nought_paper(4, total, ("place", 1, (8, 1))))
        self.no(is_nought_paper(4, total, ("place", True, (8, 1))))
        self.yes(is_nought_paper(4, total, ("place", 0, (1, 1))))
        self.no(is_nought_paper(4, total, ("place", False, (1, 1))))
        self.no(is_nought_paper(4, total, ("place", 0, (True, 1))))

    def test_places_far_from_the_first_one(self):
        # By Jacobi eight times the divisors that 4 does not divide.
        total = a_sum(((1, 2), THREE))
        self.yes(is_nought_paper(4, total, ("place", 2999, (4 * 3000, 1))))
        self.no(is_nought_paper(4, total, ("place", 2999, (4 * 3000 + 1, 1))))
        for place in (10 ** 29, -10 ** 29, -1):
            self.no(is_nought_paper(4, total, ("place", place, (4, 1))))
        for place, number in ((3000, 4 * sum(d for d in range(1, 3001) if 3000 % d == 0 and d % 4)), (3001, 4 * 3002)):
            self.no(is_nought_paper(4, total, ("place", place, (number, 1))))
        # The first place is 1, so the place 3,000 is less than 3,000 above it.
        late, row = a_sum(((-1, 3), GREAT)), numbers_of(GREAT, 3001)
        for place, taken in ((1, True), (2999, True), (3000, True), (3001, False)):
            self.same(is_nought_paper(1, late, ("place", place, pair(Fraction(-row[place - 1], 3)))), taken)
        self.no(is_nought_paper(1, late, ("place", 0, (0, 1))))

    def test_papers_are_of_one_sort(self):
        for level, total in NOUGHTS + OTHERS:
            bound = pair(plain_bound(level, [thing for _, thing in total[1]]))
            found = decided_nought(level, total)
            self.same(is_nought_paper(level, total, ("nought", level, bound)), found[0] == "nought")
            self.yes(is_nought_paper(level, total, found))


class TestSame(Asking):
    def test_same_for_ever(self):
        left, right = a_sum(((1, 1), THREE)), a_sum(((1, 1), MINUS), ((16, 1), LATE))
        self.yes(same_for_ever(4, left, right))
        self.yes(same_for_ever(8, right, left))
        self.no(same_for_ever(4, left, a_sum(((1, 1), MINUS))))
        self.yes(same_for_ever(4, left, a_sum(((1, 1), divisors("two", 4)))))
        self.same(decided_same(4, left, a_sum(((1, 1), MINUS))), ("place", 1, (16, 1)))
        self.same(decided_same(4, a_sum(((1, 1), MINUS)), left), ("place", 1, (-16, 1)))
        self.same(decided_same(4, left, right), ("nought", 4, (1, 1)))
        self.same(decided_same(4, left, left), ("nought", 4, (0, 1)))
        for level, total in NOUGHTS + OTHERS + list(families())[::4]:
            half = len(total[1]) // 2
            one, other = ("sum", total[1][:half]), sum_scaled(("sum", total[1][half:]), (-1, 1))
            self.same(decided_same(level, one, other), decided_nought(level, total))
            self.same(same_for_ever(level, one, other), is_nought(level, total))
            self.same(decided_same(level, total, EMPTY), decided_nought(level, total))
            self.same(same_for_ever(level, EMPTY, total), is_nought(level, total))
            self.yes(same_for_ever(level, total, total))

    def test_without_terms(self):
        self.yes(same_for_ever(1, EMPTY, EMPTY))
        self.same(decided_same(120, EMPTY, EMPTY), ("nought", 120, (0, 1)))
        self.yes(same_for_ever(4, EMPTY, JACOBI))
        self.no(same_for_ever(4, EMPTY, a_sum(((1, 1), THREE))))
        self.told(NotFitting, {}, same_for_ever, 2, EMPTY, JACOBI)
        self.told(NotFitting, {}, decided_same, 2, JACOBI, EMPTY)

    def test_more_than_eight_terms(self):
        many = [one for one in fitting_products(6, 2, 9) if kind_of(one, 6) == (2, 1)]
        self.assertEqual(len(many), 16)
        one = a_sum(*[((1, 1), thing) for thing in many[:8]])
        nine = a_sum(*[((1, 1), thing) for thing in many[8:9]])
        other = a_sum(*[((1, 1), thing) for thing in many[8:]])
        self.too_many("terms", 8, decided_same, 6, one, nine)
        self.too_many("terms", 8, decided_same, 6, one, other)
        self.told(NotFitting, {}, decided_same, 3, one, other)
        self.same(decided_same(6, one, one), ("nought", 6, (0, 1)))
        self.same(decided_same(6, one, a_sum(*[((1, 1), thing) for thing in many[1:8]]))[0], "place")
        # No bound for the terms is told of the bare question.
        first = min(first_of(one), first_of(other))
        places = range(first, first + 60)
        self.assertNotEqual(numbers_at(one, places), numbers_at(other, places))
        self.no(same_for_ever(6, one, other))
        self.no(same_for_ever(6, one, nine))
        more = a_sum(((3, 1), divisors("two", 2)))
        self.yes(same_for_ever(4, sum_added(JACOBI, more), more))

    def test_many_terms_that_are_the_same(self):
        # What is the same for ever, with its copies at further steps: twelve terms in all.
        ones, others = [], []
        for step in (1, 2, 3, 5):
            three, minus, late = [product(*[(s * step, p) for s, p in thing[1]]) for thing in (THREE, MINUS, LATE)]
            ones += [((step, 1), three)]
            others += [((step, 1), minus), ((16 * step, 1), late)]
        left, right = a_sum(*ones), a_sum(*others)
        self.assertEqual(len(left[1]) + len(right[1]), 12)
        self.yes(same_for_ever(120, left, right))
        self.too_many("terms", 8, decided_same, 120, left, right)
        self.no(same_for_ever(120, left, sum_added(right, a_sum(((1, 1), others[-1][1])))))

    def test_not_fitting(self):
        for call in (same_for_ever, decided_same):
            self.told(NotFitting, {}, call, 4, a_sum(((1, 1), TWO)), a_sum(((1, 1), THREE)))
            self.told(NotFitting, {}, call, 2, JACOBI, JACOBI)
            self.told(NotFitting, {}, call, 4, JACOBI, a_sum(((1, 1), PARTS)))
            # A thing that fits nothing has to fit, even if it falls out.
            self.told(NotFitting, {}, call, 4, a_sum(((1, 1), PARTS)), a_sum(((1, 1), PARTS)))

    def test_wrong_values(self):
        for call in (same_for_ever, decided_same):
            self.refused(InvalidLevel, WRONG_LEVELS, lambda value: call(value, EMPTY, EMPTY))
            self.refused(InvalidSum, WRONG_SUMS, lambda value: call(4, value, JACOBI))
            self.refused(InvalidSum, WRONG_SUMS, lambda value: call(2, JACOBI, value))
            self.told(InvalidLevel, {"value": 0}, call, 0, None, None)
            self.told(InvalidSum, {"value": None}, call, 2, None, True)


class TestPlacesAndDigits(Asking):
    def test_places(self):
        near, far = a_sum(((1, 1), FAR), ((2, 1), JUST_NEAR)), a_sum(((1, 1), FAR), ((2, 1), TOO_FAR))
        for total, span in ((near, 2999), (far, 3000)):
            self.assertEqual(plain_bound(120, [FAR, total[1][1][1]]) - first_of(total), span)
        bound, beyond = [pair(plain_bound(120, [FAR, total[1][1][1]])) for total in (near, far)]
        self.same(decided_nought(120, near), ("place", first_of(near), (2, 1)))
        self.no(is_nought(120, near))
        self.no(is_nought_paper(120, near, ("nought", 120, bound)))
        self.no(same_for_ever(120, a_sum(((1, 1), FAR)), a_sum(((1, 1), JUST_NEAR))))
        self.too_many("places", 3000, decided_nought, 120, far)
        self.too_many("places", 3000, is_nought, 120, far)
        self.too_many("places", 3000, is_nought_paper, 120, far, ("nought", 120, beyond))
        self.too_many("places", 3000, same_for_ever, 120, a_sum(((1, 1), FAR)), a_sum(((1, 1), TOO_FAR)))
        self.too_many("places", 3000, decided_same, 120, a_sum(((1, 1), FAR)), a_sum(((1, 1), TOO_FAR)))
        # A "nought" with another bound, and each "place", are no matter of so many places.
        self.no(is_nought_paper(120, far, ("nought", 120, bound)))
        self.no(is_nought_paper(120, far, ("nought", 60, beyond)))
        self.yes(is_nought_paper(120, far, ("place", first_of(far), (2, 1))))
        self.no(is_nought_paper(120, far, ("place", first_of(far), (1, 1))))
        self.no(is_nought_paper(120, far, None))
        self.assertEqual(sum_row(120, far, 1), (first_of(far), [(2, 1)]))
        # What is one and the same has no place to look at.
        self.yes(same_for_ever(120, far, far))

    def test_digits(self):
        long = times(great(19), (9 * 10 ** 19, 1))
        self.assertEqual(long[0], 9 * 10 ** 399)
        both = sum_of([(long, THREE), (long, MINUS)])
        self.too_many("digits", 400, decided_nought, 4, both)
        self.no(is_nought(4, both))
        less = sum_of([(long, THREE), ((-long[0], 1), MINUS)])
        self.too_many("digits", 400, decided_nought, 4, less)
        self.no(is_nought(4, less))
        self.no(same_for_ever(4, sum_of([(long, THREE)]), sum_of([((-long[0], 1), MINUS)])))
        self.too_many("digits", 400, decided_same, 4, sum_of([(long, THREE)]), sum_of([((-long[0], 1), MINUS)]))
        self.same(decided_nought(4, sum_of([(long, THREE)])), ("place", 0, long))
        # The places are asked first.
        far = sum_of([(long, FAR), (long, TOO_FAR)])
        self.too_many("places", 3000, decided_nought, 120, far)


if __name__ == "__main__":
    unittest.main()
