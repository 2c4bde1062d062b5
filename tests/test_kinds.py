import unittest

from asking import WRONG_KINDS, Asking, beyond, kind

from etaparts.errors import InvalidKind, InvalidPart
from etaparts.kinds import colours_of, is_kind, most_of

PLAIN = kind(1, (1, 0))
TWELVE = kind(12, *[(rest % 7, 0 if rest % 7 == 0 else (rest + 3) % 7) for rest in range(12)])


class TestIsKind(Asking):
    def test_is_kind(self):
        right = [PLAIN, TWELVE, kind(1, (0, 0)), kind(1, (6, 6)), kind(1, (1, 6)), kind(1, (6, 0)), kind(2, (0, 0), (1, 1)),
                 kind(12, *[(0, 0)] * 12), kind(12, *[(6, 6)] * 12)]
        self.only_for(is_kind, right, WRONG_KINDS)

    def test_each_modulus(self):
        for modulus in range(1, 13):
            for rows in range(15):
                self.assertIs(is_kind(kind(modulus, *[(1, 0)] * rows)), rows == modulus)

    def test_each_row(self):
        for colours in range(-1, 9):
            for most in range(-1, 9):
                right = 0 <= colours <= 6 and 0 <= most <= 6 and (colours > 0 or most == 0)
                self.assertIs(is_kind(kind(1, (colours, most))), right)
                self.assertIs(is_kind(kind(2, (1, 0), (colours, most))), right)


class TestParts(Asking):
    def test_by_the_rest(self):
        for part in list(range(1, 50)) + [5988, 5999, 6000]:
            colours = part % 12 % 7
            self.same(colours_of(TWELVE, part), colours)
            self.same(most_of(TWELVE, part), 0 if colours == 0 else (part % 12 + 3) % 7)

    def test_edges(self):
        self.same(colours_of(kind(1, (6, 6)), 1), 6)
        self.same(most_of(kind(1, (6, 6)), 6000), 6)
        self.same(colours_of(kind(1, (0, 0)), 1), 0)
        self.same(most_of(kind(1, (0, 0)), 6000), 0)
        self.same(colours_of(kind(2, (1, 0), (2, 3)), 6000), 1)
        self.same(most_of(kind(2, (1, 0), (2, 3)), 5999), 3)

    def test_wrong_values(self):
        for call in (colours_of, most_of):
            self.refused(InvalidKind, WRONG_KINDS, lambda value: call(value, 1))
            self.refused(InvalidPart, beyond(1, 6000) + [-1], lambda value: call(PLAIN, value))
            self.told(InvalidKind, {"value": None}, call, None, 0)
            self.told(InvalidPart, {"value": True}, call, PLAIN, True)


if __name__ == "__main__":
    unittest.main()
