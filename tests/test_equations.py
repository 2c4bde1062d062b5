import unittest
from fractions import Fraction
from math import gcd

from asking import EULER, NOT_TUPLES, PARTS, WRONG_LEVELS, WRONG_PRODUCTS, Asking, beyond, great, pair, product
from dividing_plainly import PAIRS, TAU, divisors, plain_index, plain_low, sums_of

from etaparts.equations import decided_equation, equation_bound, is_equation_paper, is_terms, serves_equation, sides
from etaparts.errors import InvalidLevel, InvalidNumber, InvalidProduct, InvalidRest, InvalidStep, InvalidTerms, NotFitting
from etaparts.errors import TooMany
from etaparts.orbits import orbit
from etaparts.series import numbers_of, product_row
from etaparts.serving import serves

FIVE = ((5, product((1, -6), (5, 5))),)
SEVEN = ((7, product((1, -4), (7, 3))), (49, product((1, -8), (7, 7))))
# One product more than the section by 25 and 24 needs.
ROWED = [product((1, -7 - 6 * place), (5, 6 + 6 * place)) for place in range(6)]
TWENTYFIVE = tuple(zip((1575, 162500, 4921875, 58593750, 244140625), ROWED))
FOUR = product((1, -8), (2, 20), (4, -8))
JACOBI = ((1, product((1, 8), (2, -4))), (16, product((2, -4), (4, 8))))
# (product, m, t, terms) of equations, right ones and wrong ones.
EQUATIONS = [
    (PARTS, 5, 4, FIVE), (PARTS, 5, 4, ((4,) + FIVE[0][1:],)), (PARTS, 7, 5, SEVEN), (PARTS, 7, 5, SEVEN[:1]),
    (PARTS, 7, 5, SEVEN[1:]), (PARTS, 7, 5, (SEVEN[0], (48, SEVEN[1][1]))), (PARTS, 25, 24, TWENTYFIVE), (FOUR, 1, 0, JACOBI),
    (PARTS, 25, 24, TWENTYFIVE[:-1]), (FOUR, 1, 0, JACOBI[:1]), (FOUR, 1, 0, ((1, FOUR),)), (FOUR, 1, 0, ((2, FOUR),)),
    (PARTS, 1, 0, ((1, PARTS),)), (PARTS, 1, 0, ((-1, PARTS),)), (TAU, 1, 0, ((1, TAU),)), (product(), 1, 0, ((1, product()),)),
    (TAU, 2, 1, ((-24, TAU),)), (product((1, -2), (2, 1)), 2, 1, ((2, product((1, -4), (2, 2), (4, -1), (8, 2))),)),
    (PARTS, 5, 4, ((5, FIVE[0][1]), (1, product((1, -12), (5, 11))))), (PARTS, 13, 6, ((11, product((1, -13), (2, 12))),)),
    (PARTS, 1, 0, ((1, PARTS), (1, product((1, -21), (2, 18), (4, 2))))), (EULER, 25, 1, ((-1, EULER),)),
    (PARTS, 5, 4, ((5, FIVE[0][1]), (1, product((1, -7), (5, 5), (25, 1))))), (product((1, 3)), 5, 3, ((5, product((5, 3))),)),
    (product((1, 6)), 25, 6, ((11, product((1, 6))), (150, product((5, 6))))), (product((8, 1), (15, -1)), 1, 0, ((1, product((8, 1), (15, -1))),)),
]


def plain_place(one, m, t, factor):
    """The place, None if the product isn't right."""
    x = Fraction(24 * t + sums_of(one)[1], 24 * m)
    place = Fraction(sums_of(factor)[1], 24) - x
    right = sums_of(factor)[0] == sums_of(one)[0] and place.denominator == 1 and 0 <= place <= 200
    return int(place) if right else None


def is_square(ratio):
    found = 0
    while found * found < ratio:
        found += 1
    return found * found == ratio


def goes_plainly(factor, first, level):
    """Whether the one by the other fits the level with the kind (0, 1)."""
    powers = {}
    for one, sign in ((factor, 1), (first, -1)):
        for step, power in one[1]:
            powers[step] = powers.get(step, 0) + sign * power
    if any(level % step for step in powers if powers[step]) or sum(powers.values()) != 0:
        return False
    # The product of the steps to their powers is a square just if it is one with each power made 0 or 1.
    squared = 1
    for step in powers:
        squared *= step ** (powers[step] % 2)
    sums = [sum(step * powers[step] for step in powers), sum(level // step * powers[step] for step in powers if powers[step])]
    return all(total % 24 == 0 for total in sums) and is_square(squared)


def serves_plainly(one, m, t, terms, level):
    if not serves(one, m, t, level) or any(level % step for _, factor in terms for step, _ in factor[1]):
        return False
    return all(goes_plainly(factor, terms[0][1], level) for _, factor in terms)


def plain_bound(one, m, t, terms, level):
    total, shifted = sums_of(one)
    bound = Fraction(total * plain_index(level))
    for c in divisors(level):
        if c != level:
            g = gcd(c, level // c)
            often = max(1, len([k for k in range(1, g) if gcd(k, g) == 1]))
            lows = [sum(Fraction(gcd(c, step) ** 2 * power, 24 * step) for step, power in factor[1]) for _, factor in terms]
            bound -= 24 * often * (level // (c * g)) * min(lows + [plain_low(one, m, c)])
    x = Fraction(24 * t + shifted, 24 * m)
    return bound - 24 * x - 23 * plain_place(one, m, t, terms[0][1])


def plain_right(one, m, t, terms, many):
    right = [0] * many
    for coefficient, factor in terms:
        place = plain_place(one, m, t, factor)
        for n, number in enumerate(product_row(factor, many)[:max(many - place, 0)]):
            right[n + place] += coefficient * number
    return right


def plain_sides(one, m, t, terms, many):
    """Both sides' numbers, as lists."""
    return product_row(one, m * (many - 1) + t + 1)[t::m], plain_right(one, m, t, terms, many)


def far_sides(one, m, t, terms, many):
    """As plain_sides, with places beyond 3,000."""
    return numbers_of(one, m * (many - 1) + t + 1)[t::m], plain_right(one, m, t, terms, many)


class TestTerms(Asking):
    def test_of_any_value(self):
        step = product((1, -12), (5, 11))
        right = [FIVE, ((-5, FIVE[0][1]),), ((10 ** 30 - 1, FIVE[0][1]),), (FIVE[0], (1, step)), (FIVE[0], (7, product((1, -18), (5, 17)))),
                 ((1, step),)]
        wrong = NOT_TUPLES + [
            (), [FIVE[0]], (FIVE[0], FIVE[0]), ((1, step), FIVE[0]), (FIVE[0], (1, step), (1, step)), ((0, FIVE[0][1]),), FIVE[0],
            ((True, FIVE[0][1]),), ((False, FIVE[0][1]),), (("5", FIVE[0][1]),), ((None, FIVE[0][1]),), (((5, 1), FIVE[0][1]),),
            ([5, FIVE[0][1]],), ((5,),), ((5, FIVE[0][1], 0),), ((FIVE[0][1], 5),), (FIVE[0], None), (None,), ((5, None),),
            ((5, PARTS),), ((5, product((1, -7), (5, 5))),), ((5, product((1, -5), (5, 5))),), ((5, product((1, -6), (5, 6))),),
            ((5, product((1, -6), (4, 5))),), ((5, product((2, -6), (5, 5))),), (FIVE[0], (0, step)), (FIVE[0], (True, step)),
            ((5, product((1, 5), (5, -6))),), ((5, product((1, 19))),), ((5, product((1, 18), (2, -11), (23, 1))),),
        ] + [((5, value),) for value in WRONG_PRODUCTS]
        self.only_for(lambda value: is_terms(PARTS, 5, 4, value), right, wrong)
        for t in range(4):
            self.no(is_terms(PARTS, 5, t, FIVE))
        self.no(is_terms(PAIRS, 5, 4, FIVE))
        self.no(is_terms(PARTS, 10, 4, FIVE))

    def test_one_six_and_seven(self):
        six = tuple((1, factor) for factor in ROWED)
        seven = six + ((1, product((1, -43), (5, 42))),)
        self.assertEqual([plain_place(PARTS, 25, 24, factor) for _, factor in seven], [0, 1, 2, 3, 4, 5, 6])
        self.yes(is_terms(PARTS, 25, 24, six[:1]))
        self.yes(is_terms(PARTS, 25, 24, six))
        self.yes(is_terms(PARTS, 25, 24, seven[1:]))
        self.no(is_terms(PARTS, 25, 24, seven))
        self.no(is_terms(PARTS, 25, 24, six[::-1]))

    def test_places_to_two_hundred(self):
        for place, right in ((0, True), (1, True), (200, True), (201, False), (-1, False), (-200, False)):
            found = [product((1, -a), (2, -b), (3, -c), (58, c), (59, b), (60, a))
                     for a in range(-60, 61) for b in range(-60, 61) for c in (1, 2, 3, 40, -40)
                     if a and b and 59 * a + 57 * b + 55 * c == 24 * place]
            self.assertEqual(sums_of(found[0]), (0, 24 * place))
            self.same(is_terms(product(), 1, 0, ((1, found[0]),)), right)
            self.same(is_terms(product(), 30, 0, ((1, found[0]),)), right)
        self.no(is_terms(product(), 1, 0, ((1, product((1, -1), (2, 1))),)))

    def test_the_orbit_is_one_rest(self):
        for one, m, t, terms in EQUATIONS:
            self.yes(is_terms(one, m, t, terms))
            self.same(orbit(one, m, t), [t])

    def test_wrong_values(self):
        for call in (is_terms, lambda one, m, t, terms: serves_equation(one, m, t, terms, 5),
                     lambda one, m, t, terms: equation_bound(one, m, t, terms, 5),
                     lambda one, m, t, terms: sides(one, m, t, terms, 0), decided_equation,
                     lambda one, m, t, terms: is_equation_paper(one, m, t, terms, None)):
            self.refused(InvalidProduct, WRONG_PRODUCTS, lambda value: call(value, 5, 4, FIVE))
            self.refused(InvalidStep, beyond(1, 30), lambda value: call(PARTS, value, 0, FIVE))
            self.refused(InvalidRest, beyond(0, 4) + [5], lambda value: call(PARTS, 5, value, FIVE))
            self.told(InvalidProduct, {"value": None}, call, None, 0, -1, None)
            self.told(InvalidStep, {"value": 31}, call, PARTS, 31, -1, None)
            self.told(InvalidRest, {"value": 5}, call, PARTS, 5, 5, None)
        wrong = NOT_TUPLES + [(), [FIVE[0]], (FIVE[0], FIVE[0]), ((0, FIVE[0][1]),), ((True, FIVE[0][1]),), ((5, PARTS),), SEVEN]
        for call in (lambda terms: serves_equation(PARTS, 5, 4, terms, 0), lambda terms: equation_bound(PARTS, 5, 4, terms, 0),
                     lambda terms: sides(PARTS, 5, 4, terms, -1), lambda terms: decided_equation(PARTS, 5, 4, terms),
                     lambda terms: is_equation_paper(PARTS, 5, 4, terms, None)):
            self.refused(InvalidTerms, wrong, call)
        for call in (serves_equation, equation_bound):
            self.refused(InvalidLevel, WRONG_LEVELS, lambda value: call(PARTS, 5, 4, FIVE, value))


class TestServing(Asking):
    def test_against_the_words(self):
        told = []
        for one, m, t, terms in EQUATIONS:
            for level in range(1, 121):
                found = serves_equation(one, m, t, terms, level)
                self.same(found, serves_plainly(one, m, t, terms, level))
                told.append(found)
        self.assertTrue(50 < sum(told) < len(told))

    def test_each_thing_asked(self):
        self.yes(serves_equation(PARTS, 5, 4, FIVE, 5))
        # The section is not served.
        self.no(serves_equation(PARTS, 5, 4, FIVE, 7))
        # A step of a term doesn't divide the level.
        wide = product((1, -13), (2, 12))
        self.yes(serves(PARTS, 13, 6, 13))
        self.no(serves_equation(PARTS, 13, 6, ((1, wide),), 13))
        self.yes(serves_equation(PARTS, 13, 6, ((1, wide),), 26))
        # A term by the first one doesn't fit, or has another sign.
        first, turned_off, signed = product((1, -9), (2, 12), (4, -4)), product((1, -11), (2, 3), (4, 7)), product((1, 22), (2, -22))
        self.yes(serves_equation(PARTS, 1, 0, ((1, first),), 4))
        self.assertEqual([level for level in range(1, 121)
                          if serves_equation(PARTS, 1, 0, ((1, first), (1, turned_off)), level)], [])
        self.no(goes_plainly(turned_off, first, 4))
        # By the first one it has the sign 1 and an INTEGER as its shift, but not when turned at 4 or at 8.
        late = product((1, -21), (2, 18), (4, 2))
        self.assertEqual([level for level in range(1, 121) if serves_equation(PARTS, 1, 0, ((1, PARTS), (1, late)), level)],
                         list(range(16, 121, 16)))
        self.no(goes_plainly(signed, product(), 2))

    def test_quotients_that_are_no_products(self):
        # Their powers are up to 120 in size.
        first, second = product((1, 60), (5, -60)), product((1, -60), (5, 60))
        self.assertEqual(plain_place(product((1, 60), (5, -60)), 1, 0, second), 20)
        terms = ((1, first), (1, second))
        self.yes(serves_equation(first, 1, 0, terms, 5))
        self.same(decided_equation(first, 1, 0, ((1, first),)), ("holds", 5))
        self.same(equation_bound(first, 1, 0, terms, 5), pair(plain_bound(first, 1, 0, terms, 5)))


class TestBounds(Asking):
    def test_against_the_words(self):
        for one, m, t, terms in EQUATIONS:
            serving = [level for level in range(1, 121) if serves_equation(one, m, t, terms, level)]
            for level in serving[:3] + [level for level in serving if level % 8 == 0 or level % 9 == 0][:2]:
                if m * level <= 150:
                    self.same(equation_bound(one, m, t, terms, level), pair(plain_bound(one, m, t, terms, level)))

    def test_known(self):
        self.same([equation_bound(PARTS, 5, 4, FIVE, 5), equation_bound(PARTS, 7, 5, SEVEN, 7)], [(0, 1), (24, 1)])
        self.same([equation_bound(PARTS, 5, 4, FIVE, 10), equation_bound(PARTS, 7, 5, SEVEN, 14)], [(192, 5), (744, 7)])
        self.same([equation_bound(PARTS, 25, 24, TWENTYFIVE, 5), equation_bound(PARTS, 1, 0, ((1, PARTS),), 1)], [(96, 1), (0, 1)])

    def test_of_a_level_that_does_not_serve(self):
        self.told(NotFitting, {}, equation_bound, PARTS, 5, 4, FIVE, 7)
        self.told(NotFitting, {}, equation_bound, PARTS, 13, 6, ((1, product((1, -13), (2, 12))),), 13)
        self.told(InvalidLevel, {"value": 121}, equation_bound, PARTS, 5, 4, FIVE, 121)


class TestSides(Asking):
    def test_against_rows(self):
        for one, m, t, terms in EQUATIONS:
            left, right = plain_sides(one, m, t, terms, 30)
            for n in range(30):
                self.same(sides(one, m, t, terms, n), (left[n], right[n]))

    def test_known(self):
        self.same([sides(PARTS, 5, 4, FIVE, 0), sides(PARTS, 5, 4, FIVE, 1)], [(5, 5), (30, 30)])
        self.same(sides(PARTS, 7, 5, SEVEN[1:], 0), (7, 0))
        self.same(sides(PARTS, 7, 5, SEVEN[1:], 1), (77, 49))

    def test_far_places(self):
        row = product_row(PARTS, 1005)
        self.same(sides(PARTS, 5, 4, FIVE, 200), (row[1004], row[1004]))
        # No level serves, both sides have numbers.
        terms = ((1, product((1, -9), (2, 12), (4, -4))), (1, product((1, -11), (2, 3), (4, 7))))
        self.same(sides(PARTS, 1, 0, terms, 0), (1, 1))
        # 3,000 itself is not beyond.
        one = product((1, -1), (2, 1))
        terms = ((1, product((1, -3), (2, -1), (5, 2), (10, 2))),)
        self.same(sides(FOUR, 25, 0, ((1, product((1, -1), (5, 5))),), 120)[1], product_row(product((1, -1), (5, 5)), 120)[-1])
        self.too_many("places", 3000, sides, FOUR, 25, 0, ((1, product((1, -1), (5, 5))),), 121)
        self.too_many("places", 3000, sides, one, 25, 1, terms, 120)
        self.too_many("places", 3000, sides, PARTS, 25, 24, TWENTYFIVE, 200)

    def test_digits(self):
        coefficient = great(19)[0]
        terms = ((coefficient, FIVE[0][1]),)
        self.same(sides(PARTS, 5, 4, terms, 0), (5, coefficient))
        self.too_many("digits", 400, sides, PARTS, 5, 4, terms, 200)
        self.same(decided_equation(PARTS, 5, 4, terms), ("place", 0, 5, coefficient))
        # What only tells whether something is so tells it of numbers of more digits, too.
        terms = ((10 ** 400, FIVE[0][1]),)
        self.too_many("digits", 400, decided_equation, PARTS, 5, 4, terms)
        self.no(is_equation_paper(PARTS, 5, 4, terms, ("holds", 5)))
        self.yes(is_equation_paper(PARTS, 5, 4, terms, ("place", 0, 5, 10 ** 400)))

    def test_wrong_values(self):
        self.refused(InvalidNumber, beyond(0, 200), lambda value: sides(PARTS, 5, 4, FIVE, value))
        self.told(InvalidNumber, {"value": 201}, sides, PARTS, 25, 24, TWENTYFIVE, 201)
        self.told(InvalidTerms, {"value": None}, sides, PARTS, 5, 4, None, -1)


class TestDecided(Asking):
    def test_against_the_words_and_far_beyond(self):
        words = []
        for one, m, t, terms in EQUATIONS:
            serving = [level for level in range(1, 121) if serves_plainly(one, m, t, terms, level)]
            many = min(200, 2900 // m)
            left, right = plain_sides(one, m, t, terms, many)
            unlike = [n for n in range(many) if left[n] != right[n]]
            try:
                told = decided_equation(one, m, t, terms)
            except NotFitting:
                self.assertEqual(serving, [])
                continue
            except TooMany:
                self.assertTrue(plain_bound(one, m, t, terms, serving[0]) > 200)
                continue
            words.append(told[0])
            if unlike:
                self.same(told, ("place", unlike[0], left[unlike[0]], right[unlike[0]]))
                self.assertTrue(unlike[0] <= max(plain_bound(one, m, t, terms, serving[0]), plain_place(one, m, t, terms[0][1])))
            else:
                self.same(told, ("holds", serving[0]))
            self.yes(is_equation_paper(one, m, t, terms, told))
        self.assertTrue(words.count("holds") > 5 and words.count("place") > 5, words)

    def test_known(self):
        self.same([decided_equation(PARTS, 5, 4, FIVE), decided_equation(PARTS, 7, 5, SEVEN)], [("holds", 5), ("holds", 7)])
        self.same([decided_equation(PARTS, 25, 24, TWENTYFIVE), decided_equation(FOUR, 1, 0, JACOBI)], [("holds", 5), ("holds", 4)])
        # At the first place, which is just at the bound; and behind it.
        self.same(equation_bound(PARTS, 5, 4, FIVE, 5), (0, 1))
        self.same(decided_equation(PARTS, 5, 4, ((4, FIVE[0][1]),)), ("place", 0, 5, 4))
        self.same(decided_equation(PARTS, 7, 5, SEVEN[:1]), ("place", 1, 77, 28))
        self.same(decided_equation(PARTS, 7, 5, SEVEN[1:]), ("place", 0, 7, 0))
        self.same(decided_equation(PARTS, 25, 24, TWENTYFIVE[:-1])[:2], ("place", 4))
        one = product((8, 1), (15, -1))
        self.same(decided_equation(one, 1, 0, ((1, one),)), ("holds", 120))
        self.yes(is_equation_paper(one, 1, 0, ((1, one),), ("holds", 120)))

    def test_no_level_serves(self):
        terms = ((1, product((1, -9), (2, 12), (4, -4))), (1, product((1, -11), (2, 3), (4, 7))))
        self.told(NotFitting, {}, decided_equation, PARTS, 1, 0, terms)
        one = product((58, 1), (59, 1))
        self.told(NotFitting, {}, decided_equation, one, 1, 0, ((1, one),))
        self.no(is_equation_paper(one, 1, 0, ((1, one),), ("holds", 1)))
        self.no(is_equation_paper(one, 1, 0, ((1, one),), ("place", 0, 1, 1)))
        self.yes(is_equation_paper(one, 1, 0, ((2, one),), ("place", 0, 1, 2)))

    def test_too_many(self):
        self.too_many("places", 200, decided_equation, PARTS, 13, 6, ((1, product((1, -13), (2, 12))),))
        # At 200 and just above it 200 is the last place; no number is needed beyond 3,000.
        at = ((1, product((1, 5), (2, 12), (4, 7))),)
        self.same(equation_bound(TAU, 8, 2, at, 8), (200, 1))
        self.same(decided_equation(TAU, 8, 2, at)[0], "place")
        above = ((1, product((1, -10), (2, 6), (4, 3))),)
        value = equation_bound(product((2, -1)), 5, 3, above, 20)
        self.assertTrue(200 < Fraction(*value) < 201)
        self.same(decided_equation(product((2, -1)), 5, 3, above)[0], "place")
        self.too_many("places", 3000, decided_equation, PAIRS, 25, 23, ((1, product((1, -14), (5, 12))),))
        self.too_many("places", 3000, decided_equation, PARTS, 25, 24, TWENTYFIVE + ((1, ROWED[5]),))
        # Of the place 3,000 and of 3,001.
        self.same(decided_equation(FOUR, 25, 0, ((1, product((1, -1), (5, 5))),))[0], "place")
        self.too_many("places", 3000, decided_equation, product((1, -1), (2, 1)), 25, 1,
                      ((1, product((1, -3), (2, -1), (5, 2), (10, 2))),))


class TestPapers(Asking):
    def test_holding(self):
        wrong = NOT_TUPLES + [
            (), ("holds",), ("holds", 5, 0), ["holds", 5], ("holds", 7), ("holds", 1), ("holds", 0), ("holds", 25 * 5), ("holds", 6),
            ("holds", True), ("holds", "5"), ("holds", None), ("holds", (5,)), ("Holds", 5), (b"holds", 5), (None, 5), ("place", 5),
            ("place", 0, 5, 5), ("place", 0, 5, 4), ("holds", -5), ("holds", 10 ** 29), "holds"]
        # At 20 the bound is 96; at 30 it is above 200.
        right = [("holds", 5), ("holds", 10), ("holds", 20), ("holds", 15)]
        self.only_for(lambda value: is_equation_paper(PARTS, 5, 4, FIVE, value), right, wrong)
        self.assertTrue(Fraction(*equation_bound(PARTS, 5, 4, FIVE, 30)) > 200)
        self.no(is_equation_paper(PARTS, 5, 4, FIVE, ("holds", 30)))
        for level in range(5, 121, 5):
            value = Fraction(*equation_bound(PARTS, 5, 4, FIVE, level))
            self.same(is_equation_paper(PARTS, 5, 4, FIVE, ("holds", level)), value // 1 <= 200)
        # Places beyond 3,000 would be wanted, by 25.
        self.yes(is_equation_paper(PARTS, 25, 24, TWENTYFIVE, ("holds", 5)))
        self.yes(serves_equation(PARTS, 25, 24, TWENTYFIVE, 10))
        self.no(is_equation_paper(PARTS, 25, 24, TWENTYFIVE, ("holds", 10)))
        self.no(is_equation_paper(PARTS, 5, 4, ((4, FIVE[0][1]),), ("holds", 5)))
        self.same(equation_bound(EULER, 25, 1, ((-1, EULER),), 60), (3432, 25))
        self.yes(is_equation_paper(EULER, 25, 1, ((-1, EULER),), ("holds", 5)))
        self.no(is_equation_paper(EULER, 25, 1, ((-1, EULER),), ("holds", 60)))
        # The last place would be 201.
        self.same(equation_bound(product((1, 3)), 5, 3, ((5, product((5, 3))),), 50), (1008, 5))
        self.yes(is_equation_paper(product((1, 3)), 5, 3, ((5, product((5, 3))),), ("holds", 25)))
        self.no(is_equation_paper(product((1, 3)), 5, 3, ((5, product((5, 3))),), ("holds", 50)))

    def test_places(self):
        row = product_row(PARTS, 1010)
        four = ((4, FIVE[0][1]),)
        right = [("place", 0, 5, 4), ("place", 1, 30, 24), ("place", 200, row[1004], row[1004] // 5 * 4)]
        wrong = NOT_TUPLES + [
            ("place", 0, 4, 5), ("place", 0, 5, 5), ("place", 0, 4, 4), ("place", 0, 5, 3), ("place", 1, 5, 4), ("place", -1, 5, 4),
            ("place", 0, 5), ("place", 0, 5, 4, 0), ["place", 0, 5, 4], ("place", False, 5, 4), ("place", "0", 5, 4),
            ("place", 0, "5", 4), ("place", 0, 5, "4"), ("place", None, 5, 4), ("place", 0, None, 4), ("place", 0, 5, None),
            ("place", 0, 6, 4), ("place", 201, row[1009], row[1009] // 5 * 4), ("place", 0, (5, 4)), ("Place", 0, 5, 4), ("holds", 5), ("holds", 0, 5, 4), ("place", 201, 5, 4), ("place", 10 ** 29, 5, 4)]
        self.only_for(lambda value: is_equation_paper(PARTS, 5, 4, four, value), right, wrong)
        other = ((-1, PARTS),)
        self.yes(is_equation_paper(PARTS, 1, 0, other, ("place", 0, 1, -1)))
        self.no(is_equation_paper(PARTS, 1, 0, other, ("place", 0, True, -1)))
        self.no(is_equation_paper(PARTS, 1, 0, other, ("place", False, 1, -1)))
        self.yes(is_equation_paper(PARTS, 5, 4, ((1, FIVE[0][1]),), ("place", 0, 5, 1)))
        self.no(is_equation_paper(PARTS, 5, 4, ((1, FIVE[0][1]),), ("place", 0, 5, True)))
        # The section's number at 25 times 119 and 24 can be told, that at 25 times 120 and 24 can't.
        double = tuple((2 * coefficient, factor) for coefficient, factor in TWENTYFIVE)
        left, right = sides(PARTS, 25, 24, double, 119)
        self.yes(is_equation_paper(PARTS, 25, 24, double, ("place", 119, left, right)))
        left, right = [side[120] for side in far_sides(PARTS, 25, 24, double, 121)]
        self.no(is_equation_paper(PARTS, 25, 24, double, ("place", 120, left, right)))
        # 25 times 120 itself is 3,000.
        terms = ((1, product((1, -1), (5, 5))),)
        left, right = [side[120] for side in far_sides(FOUR, 25, 0, terms, 121)]
        self.assertNotEqual(left, right)
        self.yes(is_equation_paper(FOUR, 25, 0, terms, ("place", 120, left, right)))
        self.same(sides(FOUR, 25, 0, terms, 120), (left, right))
        one = product((1, -1), (2, 1))
        terms = ((1, product((1, -3), (2, -1), (5, 2), (10, 2))),)
        for n in (119, 120):
            left, right = [side[n] for side in far_sides(one, 25, 1, terms, n + 1)]
            self.assertNotEqual(left, right)
            self.same(is_equation_paper(one, 25, 1, terms, ("place", n, left, right)), n == 119)


if __name__ == "__main__":
    unittest.main()
