import unittest

from asking import Asking
from counting import plain_partitions
from test_glaisher import WRONG_PARTS, is_parts

from etaparts.conjugates import conjugate, hooks, is_own_conjugate, of_hooks
from etaparts.errors import InvalidParts


def turned(parts):
    """By the places of a drawing of the parts, each part a row, turned over."""
    places = [(column, row) for row, part in enumerate(parts) for column in range(part)]
    found = []
    for row in range(max(parts, default=0)):
        found.append(len([place for place in places if place[0] == row]))
    return tuple(found)


def plain_hooks(parts):
    """Of the drawing: each place with as much row as column, and what is right of it and below it."""
    places = [(row, column) for row, part in enumerate(parts) for column in range(part)]
    found = []
    for corner in range(len(parts)):
        if (corner, corner) in places:
            found.append(len([(row, column) for row, column in places if row >= corner and column >= corner
                              and corner in (row, column)]))
    return tuple(found)


class TestConjugate(Asking):
    def test_all_small_ones(self):
        for number in range(17):
            listed = plain_partitions(number)
            for parts in listed:
                found = conjugate(parts)
                self.same(found, turned(parts))
                self.same(conjugate(found), parts)
                self.assertEqual(sum(found), number)
                self.assertEqual(len(parts), max(found, default=0))
            self.assertEqual(sorted(conjugate(parts) for parts in listed), listed)

    def test_edges(self):
        self.same(conjugate(()), ())
        self.same(conjugate((400,)), (1,) * 400)
        self.same(conjugate((1,) * 400), (400,))
        self.same(conjugate((20,) * 20), (20,) * 20)
        self.same(conjugate((200, 200)), (2,) * 200)

    def test_wrong_values(self):
        for call in (conjugate, hooks, is_own_conjugate, of_hooks):
            self.refused(InvalidParts, WRONG_PARTS, call)


class TestHooks(Asking):
    def test_all_small_ones(self):
        for number in range(17):
            for parts in plain_partitions(number):
                found = hooks(parts)
                self.same(found, plain_hooks(parts))
                self.assertEqual(sum(found), number)
                self.assertEqual(len(set(found)), len(found))
                self.assertTrue(is_parts(found))

    def test_edges(self):
        self.same(hooks(()), ())
        self.same(hooks((1,)), (1,))
        self.same(hooks((400,)), (400,))
        self.same(hooks((1,) * 400), (400,))
        self.same(hooks((20,) * 20), tuple(range(39, 0, -2)))
        self.same(hooks((2, 2)), (3, 1))
        self.same(hooks((2, 1)), (3,))
        self.same(hooks((3, 3, 3)), (5, 3, 1))
        self.same(hooks((200, 200)), (201, 199))


class TestOwnConjugates(Asking):
    def test_all_small_ones(self):
        for number in range(21):
            own = [parts for parts in plain_partitions(number) if turned(parts) == parts]
            odd = [parts for parts in plain_partitions(number)
                   if all(part % 2 for part in parts) and len(set(parts)) == len(parts)]
            self.assertEqual(sorted(hooks(parts) for parts in own), odd)
            for parts in own:
                self.same(of_hooks(hooks(parts)), parts)
            for parts in odd:
                self.same(hooks(of_hooks(parts)), parts)
            for parts in plain_partitions(number):
                self.same(is_own_conjugate(parts), parts in own)

    def test_edges(self):
        self.yes(is_own_conjugate(()))
        self.yes(is_own_conjugate((1,)))
        self.no(is_own_conjugate((2,)))
        self.no(is_own_conjugate((400,)))
        self.yes(is_own_conjugate((20,) * 20))
        self.yes(is_own_conjugate((200,) + (1,) * 199))
        self.same(of_hooks(()), ())
        self.same(of_hooks((1,)), (1,))
        self.same(of_hooks((399,)), (200,) + (1,) * 199)
        self.same(of_hooks((399, 1)), (200, 2) + (1,) * 198)
        self.same(of_hooks(tuple(range(39, 0, -2))), (20,) * 20)
        self.same(of_hooks((5, 3)), (3, 3, 2))

    def test_hooks_that_are_none(self):
        for parts in ((2,), (4, 2), (3, 2), (2, 1), (1, 1), (3, 3), (5, 3, 3), (3, 3, 1), (400,), (5, 4, 3), (7, 1, 1)):
            self.told(InvalidParts, {"value": parts}, of_hooks, parts)


if __name__ == "__main__":
    unittest.main()
