import unittest

from asking import NOT_TUPLES, Asking, beyond
from counting import plain_partitions

from etaparts.errors import InvalidFold, InvalidParts, InvalidTotal
from etaparts.glaisher import few_parts, free_parts, gathered, is_few, is_free, is_parts, spread
from etaparts.listing import partition_count
from etaparts.powers import kind_row

RIGHT_PARTS = [(), (1,), (400,), (200, 200), (1,) * 400, (399, 1), (3, 3, 1), (5, 4, 3, 2, 1)]
WRONG_PARTS = NOT_TUPLES + [
    (0,), (-1,), (1, 0), (1, 2), (3, 1, 2), (2, 3, 1), (2, 2, 3), (True,), (2, True), (False,), ("1",), (2, "1"), (None,),
    (1, None), ((1,),), ([1],), (401,), (400, 1), (200, 200, 1), (1,) * 401, (10 ** 29,), {2: 1}, "21", (b"1",), (2, -1),
]


def plain_free(fold, parts):
    return not [part for part in parts if part % fold == 0]


def plain_few(fold, parts):
    return not [part for part in parts if parts.count(part) >= fold]


def plain_gathered(fold, parts):
    """As often as a part stands fold times, these are put together into one."""
    while not plain_few(fold, parts):
        part = [part for part in parts if parts.count(part) >= fold][0]
        left = list(parts)
        for _ in range(fold):
            left.remove(part)
        parts = tuple(sorted(left + [part * fold], reverse=True))
    return parts


class TestParts(Asking):
    def test_is_parts(self):
        self.only_for(is_parts, RIGHT_PARTS, WRONG_PARTS)
        for number in range(12):
            for parts in plain_partitions(number):
                self.yes(is_parts(parts))

    def test_free_and_few(self):
        for fold in range(2, 13):
            for number in range(16):
                for parts in plain_partitions(number):
                    self.same(is_free(fold, parts), plain_free(fold, parts))
                    self.same(is_few(fold, parts), plain_few(fold, parts))

    def test_free_and_few_at_the_edges(self):
        for fold in range(2, 13):
            self.yes(is_free(fold, ()))
            self.yes(is_few(fold, ()))
            self.no(is_free(fold, (fold,)))
            self.no(is_free(fold, (fold * 2, 1)))
            self.yes(is_free(fold, (fold + 1, fold - 1)))
            self.yes(is_few(fold, (1,) * (fold - 1)))
            self.no(is_few(fold, (1,) * fold))
            self.no(is_few(fold, (9,) + (2,) * (fold + 1)))
            self.no(is_few(fold, (1,) * 400))
            self.yes(is_free(fold, (1,) * 400))

    def test_wrong_values(self):
        for call in (is_free, is_few, gathered, spread):
            self.refused(InvalidFold, beyond(2, 12), lambda value: call(value, (1,)))
            self.refused(InvalidParts, WRONG_PARTS, lambda value: call(2, value))
            self.told(InvalidFold, {"value": 1}, call, 1, None)
            self.told(InvalidFold, {"value": True}, call, True, (1, 2))


class TestMaps(Asking):
    def test_gathered(self):
        for fold in range(2, 13):
            for number in range(18):
                for parts in plain_partitions(number):
                    if plain_free(fold, parts):
                        self.same(gathered(fold, parts), plain_gathered(fold, parts))

    def test_one_undoes_the_other(self):
        for fold in range(2, 13):
            for number in range(18):
                free = [parts for parts in plain_partitions(number) if plain_free(fold, parts)]
                few = [parts for parts in plain_partitions(number) if plain_few(fold, parts)]
                made = [gathered(fold, parts) for parts in free]
                self.assertEqual(sorted(made), few)
                self.assertEqual([spread(fold, parts) for parts in made], free)
                self.assertEqual([gathered(fold, spread(fold, parts)) for parts in few], few)

    def test_edges(self):
        self.same(gathered(2, ()), ())
        self.same(spread(12, ()), ())
        self.same(gathered(2, (1,) * 400), (256, 128, 16))
        self.same(spread(2, (256, 128, 16)), (1,) * 400)
        self.same(gathered(12, (1,) * 400), (144, 144) + (12,) * 9 + (1,) * 4)
        self.same(spread(12, (144, 144) + (12,) * 9 + (1,) * 4), (1,) * 400)
        self.same(gathered(12, (5,) * 11), (5,) * 11)
        self.same(gathered(12, (5,) * 12), (60,))
        self.same(spread(2, (400,)), (25,) * 16)
        self.same(gathered(2, (25,) * 16), (400,))
        self.same(gathered(3, (8, 5, 5, 5, 1)), (15, 8, 1))
        self.same(spread(3, (15, 8, 1)), (8, 5, 5, 5, 1))
        self.same(spread(2, (14, 2, 1)), (7, 7, 1, 1, 1))
        self.same(spread(6, (12, 3)), (3,) + (2,) * 6)

    def test_parts_of_the_other_sort(self):
        for fold in range(2, 13):
            for parts in ((fold,), (5 * fold, 1), (fold * fold, fold)):
                self.told(InvalidParts, {"value": parts}, gathered, fold, parts)
            for parts in ((1,) * fold, (7,) * fold + (2,), (2,) * (fold + 1)):
                self.told(InvalidParts, {"value": parts}, spread, fold, parts)
        self.told(InvalidFold, {"value": 13}, gathered, 13, (13,))
        self.told(InvalidFold, {"value": 1}, spread, 1, (1, 1))


class TestLists(Asking):
    def test_against_a_plain_listing(self):
        for fold in range(2, 13):
            for total in range(19):
                listed = plain_partitions(total)
                self.same(free_parts(fold, total), [parts for parts in listed if plain_free(fold, parts)])
                self.same(few_parts(fold, total), [parts for parts in listed if plain_few(fold, parts)])

    def test_edges(self):
        for fold in range(2, 13):
            self.same(free_parts(fold, 0), [()])
            self.same(few_parts(fold, 0), [()])
            self.same(few_parts(fold, 1), [(1,)])

    def test_as_many_of_both(self):
        for fold, total in ((2, 44), (3, 33), (4, 29), (7, 26), (12, 25)):
            free, few = free_parts(fold, total), few_parts(fold, total)
            many = kind_row(("kind", fold, ((0, 0),) + ((1, 0),) * (fold - 1)), total + 1)[total]
            self.assertEqual((len(free), len(few)), (many, many))
            self.assertEqual((free, few), (sorted(free), sorted(few)))
            self.assertEqual(sorted(gathered(fold, parts) for parts in free), few)
        self.assertEqual(len(few_parts(2, 44)), partition_count(("kind", 1, ((1, 1),)), 44))

    def test_too_many(self):
        # The first totals with more than 2,000 of them: 2,048, 2,341, 2,210, 2,081, .., 2,009, ..
        for fold, total in ((2, 45), (3, 34), (4, 30), (5, 28), (6, 27), (7, 27), (8, 26), (12, 26)):
            for call in (free_parts, few_parts):
                self.too_many("partitions", 2000, call, fold, total)
                self.assertTrue(1600 < len(call(fold, total - 1)) <= 2000)
        for fold in range(2, 13):
            self.too_many("partitions", 2000, free_parts, fold, 400)
            self.too_many("partitions", 2000, few_parts, fold, 400)

    def test_new_lists(self):
        self.new_each_time(free_parts, 2, 5)
        self.new_each_time(few_parts, 2, 5)

    def test_wrong_values(self):
        for call in (free_parts, few_parts):
            self.refused(InvalidFold, beyond(2, 12), lambda value: call(value, 1))
            self.refused(InvalidTotal, beyond(0, 400), lambda value: call(2, value))
            self.told(InvalidFold, {"value": 13}, call, 13, 401)
            self.told(InvalidTotal, {"value": 401}, call, 2, 401)


if __name__ == "__main__":
    unittest.main()
