import unittest
from math import gcd

from asking import PARTS, TWELVE_STEPS, WRONG_PRODUCTS, Asking, beyond, product

from etaparts.errors import InvalidProduct, InvalidRest, InvalidStep
from etaparts.orbits import orbit, orbits, squares_of

PAIRS = product((1, -2))
MANY = [product(), PARTS, PAIRS, product((1, 1)), product((1, -3)), product((1, -2), (2, 5), (4, -2)), product((60, 60)),
        product((1, -60)), product((1, 5), (7, -3)), product((2, 1), (3, -1)), product((1, 24)), TWELVE_STEPS]


def plain_squares(m):
    found = []
    for s in range(24 * m):
        if any(x * x % (24 * m) == s for x in range(1, 24 * m + 1) if gcd(x, 24 * m) == 1):
            found.append(s)
    return found


def plain_orbit(one, m, t):
    total = sum(step * power for step, power in one[1])
    found = []
    for s in plain_squares(m):
        top = total * (s - 1)
        assert top % 24 == 0
        rest = (t * s + top // 24) % m
        if rest not in found:
            found.append(rest)
    return sorted(found)


class TestSquares(Asking):
    def test_against_the_words(self):
        for m in range(1, 31):
            self.same(squares_of(m), plain_squares(m))
            self.assertTrue(all(s % 24 == 1 for s in squares_of(m)))

    def test_known(self):
        self.same(squares_of(1), [1])
        self.same(squares_of(2), [1, 25])
        self.same(squares_of(3), [1, 25, 49])
        self.same(squares_of(5), [1, 49])
        self.same(squares_of(7), [1, 25, 121])

    def test_new_lists(self):
        self.new_each_time(squares_of, 5)

    def test_wrong_values(self):
        self.refused(InvalidStep, beyond(1, 30), squares_of)


class TestOrbits(Asking):
    def test_against_the_words(self):
        for one in MANY:
            for m in (1, 2, 3, 4, 5, 7, 8, 9, 12, 13):
                for t in range(m):
                    self.same(orbit(one, m, t), plain_orbit(one, m, t))

    def test_they_part_all_rests(self):
        for one in MANY:
            for m in range(1, 31):
                found = orbits(one, m)
                self.assertEqual(sorted(t for rests in found for t in rests), list(range(m)))
                self.assertEqual(found, sorted(found))
                for rests in found:
                    self.assertEqual(rests, sorted(rests))
                    for t in rests:
                        self.same(orbit(one, m, t), rests)

    def test_known(self):
        self.same(orbit(PARTS, 5, 4), [4])
        self.same(orbit(PAIRS, 5, 2), [2, 4])
        self.same(orbits(PAIRS, 5), [[0, 1], [2, 4], [3]])
        self.same(orbits(PARTS, 5), [[0, 3], [1, 2], [4]])
        self.same(orbits(PARTS, 1), [[0]])
        self.same(orbit(PARTS, 1, 0), [0])
        self.same(orbit(PARTS, 25, 24), [24])
        self.same(orbit(PARTS, 7, 5), [5])
        self.same(orbit(PARTS, 11, 6), [6])
        self.same(orbits(product(), 5), [[0], [1, 4], [2, 3]])
        self.same(orbits(product((1, 24)), 3), [[0], [1], [2]])
        self.same(orbit(PARTS, 30, 29), plain_orbit(PARTS, 30, 29))
        self.same(orbit(PARTS, 30, 0), plain_orbit(PARTS, 30, 0))

    def test_new_lists(self):
        self.new_each_time(orbit, PAIRS, 5, 2)
        self.new_each_time(orbits, PAIRS, 5)
        orbits(PAIRS, 5)[0][0] = None
        self.same(orbits(PAIRS, 5), [[0, 1], [2, 4], [3]])

    def test_wrong_values(self):
        self.refused(InvalidProduct, WRONG_PRODUCTS, lambda value: orbit(value, 5, 4))
        self.refused(InvalidProduct, WRONG_PRODUCTS, lambda value: orbits(value, 5))
        self.refused(InvalidStep, beyond(1, 30), lambda value: orbit(PARTS, value, 0))
        self.refused(InvalidStep, beyond(1, 30), lambda value: orbits(PARTS, value))
        self.refused(InvalidRest, beyond(0, 4) + [5], lambda value: orbit(PARTS, 5, value))
        self.refused(InvalidRest, beyond(0, 0), lambda value: orbit(PARTS, 1, value))
        self.told(InvalidProduct, {"value": None}, orbit, None, 0, -1)
        self.told(InvalidStep, {"value": 31}, orbit, PARTS, 31, -1)
        self.told(InvalidProduct, {"value": None}, orbits, None, 0)


if __name__ == "__main__":
    unittest.main()
