import unittest
from fractions import Fraction

from asking import NOT_TUPLES, PARTS, WRONG_LEVELS, WRONG_PRODUCTS, Asking, beyond, product
from dividing_plainly import PAIRS, TAU, divisors, sums_of
from test_equations import FIVE, FOUR, JACOBI, ROWED, SEVEN, TWENTYFIVE, goes_plainly, plain_place, plain_sides

from etaparts.equations import decided_equation
from etaparts.errors import InvalidLevel, InvalidMany, InvalidProduct, InvalidProducts, InvalidRest, InvalidStep, NotFitting
from etaparts.errors import TooMany
from etaparts.looking import candidates, found_terms, looked
from etaparts.serving import serves

SEVENS = [factor for _, factor in SEVEN]


def plain_candidates(one, m, t, level, many, most=6):
    """All powers of all steps, tried one by one."""
    rows = [()]
    for step in divisors(level):
        rows = [row + ((step, power),) for row in rows for power in range(-many, many + 1)]
    placed = []
    for row in rows:
        factor = product(*[pair for pair in row if pair[1] != 0])
        place = plain_place(one, m, t, factor)
        if place is not None:
            placed.append((place, factor))
    placed.sort()
    found = placed[:1]
    for place in range(found[0][0] + 1 if found else 0, 201):
        fitting = [choice for choice in placed if choice[0] == place and goes_plainly(choice[1], found[0][1], level)]
        found += fitting[:1]
    return found[:most]


class TestFound(Asking):
    def test_known(self):
        self.same(found_terms(PARTS, 5, 4, [FIVE[0][1]]), FIVE)
        self.same(found_terms(PARTS, 7, 5, SEVENS), SEVEN)
        self.same(found_terms(PARTS, 7, 5, tuple(SEVENS)), SEVEN)
        self.same(found_terms(PARTS, 25, 24, ROWED[:5]), TWENTYFIVE)
        self.same(found_terms(FOUR, 1, 0, [factor for _, factor in JACOBI]), JACOBI)
        self.same(found_terms(PARTS, 1, 0, [PARTS]), ((1, PARTS),))
        self.same(found_terms(TAU, 2, 1, [TAU]), None)

    def test_none(self):
        self.same(found_terms(PARTS, 7, 5, SEVENS[:1]), None)
        self.same(found_terms(PARTS, 7, 5, SEVENS[1:]), None)
        for many in range(1, 5):
            self.same(found_terms(PARTS, 25, 24, ROWED[:many]), None)
        self.same(found_terms(PARTS, 5, 4, [product((1, -12), (5, 11))]), None)

    def test_coefficients_that_come_to_nought(self):
        # Two of the three products are not needed.
        more = [product((1, -6), (5, 5)), product((1, -12), (5, 11))]
        self.same(found_terms(PARTS, 5, 4, more), FIVE)
        self.same(found_terms(PARTS, 7, 5, SEVENS + [product((1, -12), (7, 11)), product((1, -16), (7, 15))]), SEVEN)
        # The first one comes to 0, what remains begins later.
        shifted = product((2, -24))
        self.assertEqual([plain_place(shifted, 1, 0, factor) for factor in (shifted, product((1, -24)))], [0, 1])
        self.same(found_terms(shifted, 1, 0, [shifted, product((1, -24))]), ((1, shifted),))
        # All come to 0: the section has no numbers but 0, or has them later.
        self.same(found_terms(shifted, 1, 0, [product((1, -24))]), None)

    def test_all_nought_of_a_section_of_noughts(self):
        one = product((5, 24))
        found = [factor for place, factor in plain_candidates(one, 5, 0, 1, 24)]
        self.assertEqual(found, [product((1, 24))])
        self.same(found_terms(one, 5, 0, found), ((1, product((1, 24))),))
        late = product((2, 12), (4, -24), (8, 12))
        self.assertEqual(sums_of(late), (0, 24))
        self.assertEqual(set(plain_sides(late, 2, 1, (), 100)[0]), {0})
        factors = [factor for _, factor in plain_candidates(late, 2, 1, 4, 12)]
        self.assertTrue(factors)
        self.same(found_terms(late, 2, 1, factors[:1]), None)
        self.same(looked(late, 2, 1, 4, 12), None)

    def test_what_is_found_is_decided(self):
        many = 0
        for one, m, t, level, size in ((PARTS, 5, 4, 5, 24), (PARTS, 5, 4, 10, 4), (PARTS, 7, 5, 7, 24), (PAIRS, 3, 2, 3, 20),
                                       (PAIRS, 2, 1, 4, 10), (PAIRS, 5, 3, 5, 24), (product((1, -3)), 3, 1, 3, 24),
                                       (product((1, -3)), 3, 2, 9, 20), (TAU, 2, 1, 2, 24), (FOUR, 1, 0, 4, 20),
                                       (product((1, -2), (2, 1)), 2, 1, 8, 6), (product((1, -1), (2, 1)), 1, 0, 2, 24),
                                       (product((1, -24)), 2, 1, 4, 24), (product((1, -4)), 2, 1, 4, 20)):
            factors = [factor for _, factor in candidates(one, m, t, level, size)]
            if not factors:
                continue
            try:
                terms = found_terms(one, m, t, factors)
            except (NotFitting, TooMany) as wrong:
                self.assertRaises(type(wrong), looked, one, m, t, level, size)
                continue
            self.same(looked(one, m, t, level, size), terms)
            if terms is not None:
                many += 1
                self.same(decided_equation(one, m, t, terms)[0], "holds")
                left, right = plain_sides(one, m, t, terms, 300)
                self.assertEqual(left, right)
        self.assertGreater(many, 4)

    def test_errors_of_state(self):
        first, turned_off = product((1, -9), (2, 12), (4, -4)), product((1, -11), (2, 3), (4, 7))
        self.told(NotFitting, {}, found_terms, PARTS, 1, 0, [first, turned_off])
        one = product((58, 1), (59, 1))
        self.told(NotFitting, {}, found_terms, one, 1, 0, [one])
        self.too_many("places", 200, found_terms, PARTS, 13, 6, [product((1, -13), (2, 12))])
        self.too_many("places", 3000, found_terms, PAIRS, 25, 23, [product((1, -14), (5, 12))])
        self.too_many("places", 3000, found_terms, PARTS, 25, 24, ROWED)

    def test_wrong_values(self):
        self.refused(InvalidProduct, WRONG_PRODUCTS, lambda value: found_terms(value, 5, 4, [FIVE[0][1]]))
        self.refused(InvalidStep, beyond(1, 30), lambda value: found_terms(PARTS, value, 0, [FIVE[0][1]]))
        self.refused(InvalidRest, beyond(0, 4) + [5], lambda value: found_terms(PARTS, 5, value, [FIVE[0][1]]))
        seven = ROWED + [product((1, -43), (5, 42))]
        wrong = [value for value in NOT_TUPLES if value != []] + [
            [], (), [PARTS], [FIVE[0][1], FIVE[0][1]], [FIVE[0][1], None], [product((1, -12), (5, 11)), FIVE[0][1]], FIVE[0][1], FIVE,
            [FIVE[0]], [product((1, -6), (5, 6))], [product((1, 5), (5, -6))], {FIVE[0][1]: 1}, list(FIVE[0][1])]
        self.refused(InvalidProducts, wrong, lambda value: found_terms(PARTS, 5, 4, value))
        self.refused(InvalidProducts, [[value] for value in WRONG_PRODUCTS], lambda value: found_terms(PARTS, 5, 4, value))
        self.refused(InvalidProducts, [seven], lambda value: found_terms(PARTS, 25, 24, value))
        self.told(InvalidProduct, {"value": None}, found_terms, None, 0, -1, None)
        self.told(InvalidStep, {"value": 31}, found_terms, PARTS, 31, -1, None)
        self.told(InvalidRest, {"value": 5}, found_terms, PARTS, 5, 5, None)


class TestCandidates(Asking):
    def test_against_a_trial_of_all_powers(self):
        many = []
        for one, m, t, level, size in ((PARTS, 5, 4, 5, 24), (PARTS, 5, 4, 10, 3), (PARTS, 7, 5, 7, 24), (PARTS, 1, 0, 4, 9),
                                       (PARTS, 5, 3, 5, 24), (PAIRS, 3, 2, 3, 20), (PAIRS, 2, 1, 4, 8), (TAU, 1, 0, 1, 24),
                                       (TAU, 1, 0, 1, 23), (TAU, 2, 1, 2, 24), (product(), 1, 0, 4, 8), (product(), 1, 0, 6, 4),
                                       (product(), 1, 0, 2, 24), (FOUR, 1, 0, 4, 10), (product((1, -4)), 2, 1, 4, 10),
                                       (PARTS, 1, 0, 1, 1), (PARTS, 1, 0, 2, 1), (PARTS, 5, 4, 1, 24), (product((1, -3)), 3, 2, 9, 12),
                                       (product((1, 1), (3, -2)), 2, 0, 12, 1), (product((1, -24)), 1, 0, 1, 24)):
            told = candidates(one, m, t, level, size)
            self.same(told, plain_candidates(one, m, t, level, size))
            many.append(len(told))
        self.assertEqual([min(many), max(many)], [0, 6])
        self.assertGreater(len(set(many)), 3)

    def test_known(self):
        self.same(candidates(PARTS, 5, 4, 5, 6), [(0, product((1, -6), (5, 5)))])
        self.same(looked(PARTS, 5, 4, 5, 6), FIVE)
        self.same(candidates(PARTS, 7, 5, 7, 24), [(place, product((1, -4 - 4 * place), (7, 3 + 4 * place))) for place in range(6)])
        self.same(looked(PARTS, 7, 5, 7, 24), SEVEN)
        # No more than six, though there are more places.
        self.same(len(candidates(product(), 1, 0, 2, 24)), 2)
        self.assertGreater(len(plain_candidates(PARTS, 5, 4, 25, 8, 9)), 6)
        self.same(candidates(PARTS, 5, 4, 25, 8), plain_candidates(PARTS, 5, 4, 25, 8, 9)[:6])
        # Steps above 60 are none of a product.
        self.same(candidates(PARTS, 1, 0, 61, 24), [(0, PARTS)])
        self.same(candidates(PARTS, 1, 0, 119, 1)[:1], [(0, PARTS)])

    def test_the_level_is_asked_for_steps_alone(self):
        # The level 7 serves no section by 5, the level 1 doesn't, either.
        self.same(candidates(PARTS, 5, 4, 7, 24), plain_candidates(PARTS, 5, 4, 7, 24))
        self.same(candidates(PARTS, 6, 0, 4, 3), plain_candidates(PARTS, 6, 0, 4, 3))

    def test_none(self):
        self.same([candidates(PARTS, 5, 4, 1, 24), looked(PARTS, 5, 4, 1, 24)], [[], None])
        self.same([candidates(PARTS, 5, 3, 5, 24), looked(PARTS, 5, 3, 5, 24)], [[], None])
        self.same([candidates(TAU, 1, 0, 1, 23), looked(TAU, 1, 0, 1, 23)], [[], None])
        self.same([candidates(PARTS, 5, 4, 5, 1), looked(PARTS, 5, 4, 5, 1)], [[], None])
        self.same(looked(PARTS, 7, 5, 7, 7), None)

    def test_too_many(self):
        for call in (candidates, looked):
            # 21^4 is less than 200,000, 49^4 and 23^4 are more.
            call(PARTS, 5, 4, 7, 24)
            call(TAU, 1, 0, 6, 10)
            self.too_many("choices", 200000, call, PARTS, 5, 4, 10, 24)
            self.too_many("choices", 200000, call, PARTS, 1, 0, 6, 11)
            self.too_many("choices", 200000, call, PARTS, 1, 0, 120, 1)
            self.too_many("choices", 200000, call, PARTS, 6, 0, 60, 1)

    def test_what_looked_tells_of_state(self):
        self.too_many("places", 200, looked, PARTS, 13, 6, 2, 24)
        self.too_many("places", 3000, looked, product((1, -1), (2, 1)), 25, 1, 10, 1)
        # The level tells the steps alone: what is found holds by whatever level serves.
        spread = product((2, 24))
        self.no(serves(spread, 2, 0, 1))
        self.yes(serves(spread, 2, 0, 2))
        self.same(candidates(spread, 2, 0, 1, 24), [(0, TAU)])
        self.same(looked(spread, 2, 0, 1, 24), ((1, TAU),))

    def test_new_lists(self):
        self.new_each_time(candidates, PARTS, 7, 5, 7, 24)

    def test_wrong_values(self):
        for call in (candidates, looked):
            self.refused(InvalidProduct, WRONG_PRODUCTS, lambda value: call(value, 5, 4, 5, 6))
            self.refused(InvalidStep, beyond(1, 30), lambda value: call(PARTS, value, 0, 5, 6))
            self.refused(InvalidRest, beyond(0, 4) + [5], lambda value: call(PARTS, 5, value, 5, 6))
            self.refused(InvalidLevel, WRONG_LEVELS, lambda value: call(PARTS, 5, 4, value, 6))
            self.refused(InvalidMany, beyond(1, 24) + [0, 25], lambda value: call(PARTS, 5, 4, 5, value))
            self.told(InvalidProduct, {"value": None}, call, None, 0, -1, 0, 0)
            self.told(InvalidStep, {"value": 31}, call, PARTS, 31, -1, 0, 0)
            self.told(InvalidRest, {"value": 5}, call, PARTS, 5, 5, 0, 0)
            self.told(InvalidLevel, {"value": 121}, call, PARTS, 5, 4, 121, 0)
            self.told(InvalidMany, {"value": 25}, call, PARTS, 5, 4, 120, 25)


if __name__ == "__main__":
    unittest.main()
