import unittest
from fractions import Fraction

from asking import EULER, NOT_TUPLES, PARTS, WRONG_PRODUCTS, Asking, beyond, product
from dividing_plainly import MANY, PAIRS, SQUARES, TAU, THREES

from etaparts.clearing import bound, told_clearing
from etaparts.dividing import decided_dividing, is_dividing, is_dividing_paper, orbit_numbers
from etaparts.errors import InvalidDivisor, InvalidMany, InvalidProduct, InvalidRest, InvalidStep, TooMany
from etaparts.orbits import orbit, orbits
from etaparts.series import numbers_of, plain_row, product_row

# The one is divisible for ever by no u; of the others the bound is at 200, the last place at 3,000 or beyond it.
AT_200, JUST_ABOVE = product((1, -44)), product((1, -31))
AT_3000 = product((1, 12), (3, -12))
BETWEEN = product((1, -12), (2, 12))
LONG = product(*[(step, -60) for step in range(1, 13)])


def plain_answer(one, m, t, u, row):
    """What is decided, by the row; None if it is too short."""
    level, step, power, value = told_clearing(one, m, t)
    last = value[0] // value[1]
    if m * last + m > len(row):
        return None
    for n in range(last + 1):
        for rest in orbit(one, m, t):
            if row[m * n + rest] % u != 0:
                return ("place", rest, n, row[m * n + rest])
    return ("divisible", level, step, power)


class TestDecided(Asking):
    def test_against_the_words_and_far_beyond(self):
        seen, compared = {"divisible": 0, "place": 0}, 0
        for one in MANY + [product((1, -5)), product((1, -9)), product((1, -1), (5, 1))]:
            row = product_row(one, 700)
            for m in (1, 2, 3, 4, 5, 7, 8, 9):
                for rests in orbits(one, m):
                    for u in (2, 3, 4, 5, 7, 8, 9, 11, 25, 1000):
                        try:
                            paper = decided_dividing(one, m, rests[0], u)
                        except TooMany:
                            break
                        seen[paper[0]] += 1
                        plain = plain_answer(one, m, rests[0], u, row)
                        self.assertIn(plain, (None, paper))
                        compared += plain is not None
                        self.same(is_dividing(one, m, rests[0], u), paper[0] == "divisible")
                        self.yes(is_dividing_paper(one, m, rests[0], u, paper))
                        if paper[0] == "divisible":
                            self.assertTrue(all(number % u == 0 for rest in rests for number in row[rest::m]))
        self.assertTrue(min(seen.values()) > 200, seen)
        self.assertGreater(compared, 2000)

    def test_one_answer_for_all_rests_of_an_orbit(self):
        for one in MANY:
            for m in (2, 5, 7, 8, 9):
                for rests in orbits(one, m):
                    for u in (2, 3, 5):
                        try:
                            paper = decided_dividing(one, m, rests[0], u)
                        except TooMany:
                            break
                        for t in rests:
                            self.same(decided_dividing(one, m, t, u), paper)
                            self.same(is_dividing(one, m, t, u), paper[0] == "divisible")
                            self.yes(is_dividing_paper(one, m, t, u, paper))

    def test_known(self):
        self.same([decided_dividing(PARTS, 5, 4, 5), decided_dividing(PARTS, 5, 4, 25), decided_dividing(PARTS, 5, 3, 5)],
                  [("divisible", 5, 1, 5), ("place", 4, 0, 5), ("place", 0, 0, 1)])
        self.same([decided_dividing(PARTS, 7, 5, 7), decided_dividing(PARTS, 11, 6, 11), decided_dividing(PARTS, 25, 24, 25)],
                  [("divisible", 7, 1, 7), ("divisible", 11, 1, 11), ("divisible", 5, 1, 25)])
        self.same([decided_dividing(THREES, 3, 2, 9), decided_dividing(PAIRS, 5, 2, 5), decided_dividing(PAIRS, 5, 4, 5)],
                  [("divisible", 3, 1, 9), ("divisible", 5, 1, 10), ("divisible", 5, 1, 10)])
        self.same(decided_dividing(PAIRS, 5, 4, 10), ("place", 2, 0, 5))
        self.yes(is_dividing(THREES, 3, 2, 9))
        self.no(is_dividing(THREES, 3, 2, 27))
        # u at both ends of its bounds, m at both of its, t at both of its.
        self.same([decided_dividing(TAU, 2, 0, 2), decided_dividing(TAU, 1, 0, 1000)], [("place", 0, 0, 1)] * 2)
        self.yes(is_dividing(product(), 30, 29, 1000))
        self.no(is_dividing(product(), 30, 0, 2))
        self.same(decided_dividing(product(), 30, 29, 2), decided_dividing(product(), 30, 1, 1000))

    def test_of_places_with_one_n_the_least_rest(self):
        # Of all wrong numbers it is that with the least n, of these the one of the least rest.
        row = product_row(PAIRS, 100)
        for m in (5, 7, 9):
            for rests in orbits(PAIRS, m):
                for u in (2, 5):
                    try:
                        paper = decided_dividing(PAIRS, m, rests[-1], u)
                    except TooMany:
                        continue
                    if paper[0] == "place":
                        _, rest, n, number = paper
                        self.assertEqual(number, row[m * n + rest])
                        wrong = [(k, other) for k in range(n + 1) for other in rests if row[m * k + other] % u]
                        self.assertEqual(min(wrong), (n, rest))

    def test_spoilt_late(self):
        for one, m, t, u in ((product((1, -15)), 9, 4, 5), (product((1, 20)), 11, 1, 2), (product((1, 21)), 11, 6, 7)):
            row = product_row(one, 120)[t::m]
            self.assertTrue(all(number % u == 0 for number in row[:9]))
            self.same(decided_dividing(one, m, t, u), ("place", t, 9, row[9]))
            self.no(is_dividing(one, m, t, u))

    def test_no_place_at_all(self):
        self.same(told_clearing(product(), 2, 1)[3], (-1, 2))
        self.same(decided_dividing(product(), 2, 1, 2), ("divisible", 2, 1, 0))
        self.same(decided_dividing(product(), 2, 1, 1000), ("divisible", 2, 1, 0))
        self.yes(is_dividing_paper(product(), 2, 1, 7, ("divisible", 2, 1, 0)))

    def test_too_many(self):
        for call in (decided_dividing, is_dividing):
            for t in range(6):
                self.too_many("level", 120, call, PARTS, 6, t, 2)
            # At the bound 200 places are looked at, above it none, though the first would decide.
            call(AT_200, 11, 0, 2)
            self.too_many("places", 200, call, JUST_ABOVE, 13, 0, 2)
            self.too_many("places", 200, call, product((1, -15)), 15, 0, 2)
            self.too_many("places", 3000, call, product((1, -15)), 15, 10, 2)
            self.too_many("places", 3000, call, product((1, -60)), 27, 7, 2)
            call(AT_3000, 24, 0, 2)
            self.too_many("places", 3000, call, AT_3000, 24, 2, 2)
            # One rest of the orbit stays below 3,000, the last one doesn't.
            self.assertEqual(orbit(BETWEEN, 16, 0), [0, 4, 8, 12])
            self.too_many("places", 3000, call, BETWEEN, 16, 0, 2)
            self.too_many("places", 3000, call, BETWEEN, 16, 12, 2)

    def test_wrong_values(self):
        for call in (decided_dividing, is_dividing, lambda one, m, t, u: is_dividing_paper(one, m, t, u, None)):
            self.refused(InvalidProduct, WRONG_PRODUCTS, lambda value: call(value, 5, 4, 5))
            self.refused(InvalidStep, beyond(1, 30), lambda value: call(PARTS, value, 0, 5))
            self.refused(InvalidRest, beyond(0, 4) + [5], lambda value: call(PARTS, 5, value, 5))
            self.refused(InvalidDivisor, beyond(2, 1000) + [0, -5], lambda value: call(PARTS, 5, 4, value))
            self.told(InvalidProduct, {"value": None}, call, None, 0, -1, 1)
            self.told(InvalidStep, {"value": 0}, call, PARTS, 0, -1, 1)
            self.told(InvalidRest, {"value": 5}, call, PARTS, 5, 5, 1)
            # The parameters come ahead of what is too much.
            self.told(InvalidDivisor, {"value": 1}, call, PARTS, 6, 0, 1)


class TestPapers(Asking):
    def test_of_any_value(self):
        right = [("divisible", 5, 1, 5), ("divisible", 5, 1, 6), ("divisible", 10, 1, 5), ("divisible", 5, 5, 25),
                 ("divisible", 35, 1, 5), ("divisible", 5, 1, 900)]
        wrong = NOT_TUPLES + [
            (), ("divisible",), ("divisible", 5, 1), ("divisible", 5, 1, 5, 0), ["divisible", 5, 1, 5], ("divisible", 5, 1, 4),
            ("divisible", 7, 1, 5), ("divisible", 5, 2, 50), ("divisible", 0, 1, 5), ("divisible", 125, 1, 5),
            ("divisible", 5, 1, -5), ("divisible", True, 1, 5), ("divisible", 5, True, 5), ("divisible", 5, 1, True),
            ("divisible", "5", 1, 5), ("divisible", 5, "1", 5), ("divisible", 5, 1, "5"), ("divisible", None, 1, 5),
            ("divisible", 5, None, 5), ("divisible", 5, 1, None), ("divisible", 5, (1, 5)), ("divisible", 5, (1,), 5),
            ("Divisible", 5, 1, 5), (b"divisible", 5, 1, 5), (None, 5, 1, 5), ("dividing", 5, 1, 5), ("place", 5, 1, 5),
            ("place", 4, 0, 5), ("place", 4, 0, 6), ("place", 4, 1, 31), ("place", 3, 0, 3), "divisible",
            ("divisible", 5, 1, 10 ** 29),
        ]
        self.only_for(lambda value: is_dividing_paper(PARTS, 5, 4, 5, value), right, wrong)

    def test_places(self):
        row = product_row(PARTS, 1100)
        self.assertEqual([row[4], row[14], row[1004]], [5, 135, row[1004]])
        right = [("place", 4, 0, 5), ("place", 4, 2, 135)] + [("place", 4, n, row[5 * n + 4]) for n in (50, 199, 200)
                                                             if row[5 * n + 4] % 25]
        self.assertEqual(len(right), 4)
        wrong = NOT_TUPLES + [
            ("place", 4, 0, 6), ("place", 4, 0, -5), ("place", 4, 1, 5), ("place", 3, 0, 3), ("place", -1, 1, 5), ("place", 4, -1, 1),
            ("place", 9, 0, 30), ("place", 4, 0), ("place", 4, 0, 5, 5), ["place", 4, 0, 5], ("place", 4, False, 5),
            ("place", 4, "0", 5), ("place", "4", 0, 5), ("place", 4, 0, "5"), ("place", None, 0, 5), ("place", 4, None, 5),
            ("place", 4, 0, None), ("place", (4,), 0, 5), ("place", 4, 0, (5, 1)), ("Place", 4, 0, 5), (b"place", 4, 0, 5),
            ("place", 4, 201, row[1009]), ("place", 4, 10 ** 29, 1), ("divisible", 5, 1, 5), ("divisible", 4, 0, 5),
        ]
        self.assertTrue(row[1009] % 25)
        self.only_for(lambda value: is_dividing_paper(PARTS, 5, 4, 25, value), right, wrong)
        # A number that u divides spoils nothing; True is no number, though it is one that 25 doesn't divide.
        at = [n for n in range(50) if row[5 * n + 4] % 25 == 0][0]
        self.no(is_dividing_paper(PARTS, 5, 4, 25, ("place", 4, at, row[5 * at + 4])))
        self.yes(is_dividing_paper(PARTS, 5, 0, 5, ("place", 0, 0, 1)))
        for paper in (("place", 0, 0, True), ("place", False, 0, 1), ("place", 0, False, 1), ("place", True, 0, 1)):
            self.no(is_dividing_paper(PARTS, 5, 0, 5, paper))

    def test_any_rest_of_the_orbit(self):
        # 0 and 3 are an orbit.
        for t in (0, 3):
            self.yes(is_dividing_paper(PARTS, 5, t, 5, ("place", 0, 0, 1)))
            self.yes(is_dividing_paper(PARTS, 5, t, 5, ("place", 3, 0, 3)))
            self.yes(is_dividing_paper(PARTS, 5, t, 5, ("place", 3, 1, 22)))
            self.no(is_dividing_paper(PARTS, 5, t, 5, ("place", 1, 0, 1)))

    def test_papers_beyond_the_bounds(self):
        self.same(bound(AT_200, 11, 0, 11, (1, 484)), (200, 1))
        told = decided_dividing(AT_200, 11, 0, 11)
        self.same(told, ("place", 0, 0, 1))
        for power, value in ((965, (200, 1)), (966, (4805, 24))):
            self.same(bound(PARTS, 5, 4, 5, (1, power)), value)
            self.same(is_dividing_paper(PARTS, 5, 4, 5, ("divisible", 5, 1, power)), value == (200, 1))
        # By 25 the place 2,999 is the last one that is looked at.
        for power, last in ((577, 119), (581, 119), (582, 120)):
            value = bound(PARTS, 25, 24, 5, (1, power))
            self.assertEqual(value[0] // value[1], last)
            self.same(is_dividing_paper(PARTS, 25, 24, 25, ("divisible", 5, 1, power)), last == 119)
        # No place above 3,000 is looked at; 3,000 itself is.
        level, step, power, _ = told_clearing(AT_3000, 24, 0)
        row = product_row(AT_3000, 3000)
        self.no(is_dividing_paper(AT_3000, 24, 0, 2, ("divisible", level, step, power)))
        self.yes(is_dividing_paper(AT_3000, 24, 0, 2, ("place", 0, 0, 1)))
        at = [n for n in range(100, 125) if row[24 * n] % 7][-1]
        self.yes(is_dividing_paper(AT_3000, 24, 0, 7, ("place", 0, at, row[24 * at])))

    def test_the_place_three_thousand(self):
        last = orbit_numbers(PARTS, 15, 0, 200)[0][1][-1]
        self.assertEqual(orbit(PARTS, 15, 0)[0], 0)
        self.assertEqual(last, product_row(PARTS, 2986)[-1])
        row = product_row(product((3, -1)), 3000)
        number = product_row(PARTS, 1001)[1000]
        # The product at 3 has at 3,000 what the partitions have at 1,000.
        self.assertEqual(row[2997], product_row(PARTS, 1000)[999])
        u = [u for u in range(2, 20) if number % u][0]
        self.yes(is_dividing_paper(product((3, -1)), 15, 0, u, ("place", 0, 200, number)))
        self.no(is_dividing_paper(product((3, -1)), 15, 0, u, ("place", 0, 200, number + u)))
        # 3,001 is beyond.
        one = product((1, -24))
        self.assertEqual(orbit(one, 25, 1), [1])
        row = numbers_of(one, 3002)
        u = [u for u in range(2, 50) if row[3001] % u and row[2976] % u][0]
        self.yes(is_dividing_paper(one, 25, 1, u, ("place", 1, 119, row[2976])))
        self.no(is_dividing_paper(one, 25, 1, u, ("place", 1, 120, row[3001])))

    def test_no_level_serves(self):
        self.yes(is_dividing_paper(PARTS, 6, 0, 2, ("place", 0, 0, 1)))
        self.no(is_dividing_paper(PARTS, 6, 0, 2, ("divisible", 6, 1, 100)))

    def test_never_one_of_each(self):
        for one in MANY[:9]:
            row = product_row(one, 300)
            for m in (2, 3, 5, 7):
                for rests in orbits(one, m):
                    for u in (2, 3, 5):
                        try:
                            told = decided_dividing(one, m, rests[0], u)
                        except TooMany:
                            continue
                        level, step, power = told_clearing(one, m, rests[0])[:3]
                        self.same(is_dividing_paper(one, m, rests[0], u, ("divisible", level, step, power)), told[0] == "divisible")
                        spoilt = [is_dividing_paper(one, m, rests[0], u, ("place", rest, n, row[m * n + rest]))
                                  for n in range(20) for rest in rests]
                        self.same(any(spoilt), told[0] == "place")


class TestOrbitNumbers(Asking):
    def test_against_rows(self):
        for one in MANY:
            row = plain_row(one, 200)
            for m in (1, 2, 3, 5, 7, 9):
                for t in range(m):
                    self.same(orbit_numbers(one, m, t, 20),
                              [(rest, row[rest::m][:20]) for rest in orbit(one, m, t)])

    def test_many(self):
        self.same(orbit_numbers(PARTS, 5, 4, 0), [(4, [])])
        self.same(orbit_numbers(PAIRS, 5, 2, 0), [(2, []), (4, [])])
        self.same(orbit_numbers(PARTS, 5, 4, 3), [(4, [5, 30, 135])])
        self.same(orbit_numbers(PARTS, 1, 0, 200), [(0, product_row(PARTS, 200))])
        self.same(orbit_numbers(SQUARES, 14, 0, 200)[0], (0, product_row(SQUARES, 2787)[::14]))

    def test_new_lists(self):
        self.new_each_time(orbit_numbers, PAIRS, 5, 2, 3)
        orbit_numbers(PAIRS, 5, 2, 3)[0][1][0] = None
        self.same(orbit_numbers(PAIRS, 5, 2, 3)[0][1][0], 5)

    def test_too_many(self):
        # The last place is at most 3,000: 30 times 99 and 30, or 15 times 199 and 15.
        self.same(len(orbit_numbers(product(), 30, 29, 100)[0][1]), 100)
        self.same(orbit_numbers(product(), 30, 0, 101), [(0, [1] + [0] * 100)])
        self.too_many("places", 3000, orbit_numbers, product(), 30, 1, 101)
        self.same(orbit_numbers(EULER, 25, 1, 120)[0][1][:4], product_row(EULER, 77)[1::25])
        self.too_many("places", 3000, orbit_numbers, EULER, 25, 1, 121)
        self.too_many("places", 3000, orbit_numbers, product(), 30, 0, 102)
        self.too_many("places", 3000, orbit_numbers, product(), 16, 0, 200)
        self.too_many("places", 3000, orbit_numbers, LONG, 30, 0, 200)
        # Few numbers of great places have more than 400 digits.
        self.too_many("digits", 400, orbit_numbers, LONG, 15, 0, 190)
        self.same(len(orbit_numbers(LONG, 15, 0, 10)[0][1]), 10)

    def test_wrong_values(self):
        self.refused(InvalidProduct, WRONG_PRODUCTS, lambda value: orbit_numbers(value, 5, 4, 3))
        self.refused(InvalidStep, beyond(1, 30), lambda value: orbit_numbers(PARTS, value, 0, 3))
        self.refused(InvalidRest, beyond(0, 4) + [5], lambda value: orbit_numbers(PARTS, 5, value, 3))
        self.refused(InvalidMany, beyond(0, 200), lambda value: orbit_numbers(PARTS, 5, 4, value))
        self.told(InvalidProduct, {"value": None}, orbit_numbers, None, 0, -1, -1)
        self.told(InvalidStep, {"value": 0}, orbit_numbers, PARTS, 0, -1, -1)
        self.told(InvalidRest, {"value": 5}, orbit_numbers, PARTS, 5, 5, -1)
        self.told(InvalidMany, {"value": 201}, orbit_numbers, LONG, 30, 0, 201)


if __name__ == "__main__":
    unittest.main()
