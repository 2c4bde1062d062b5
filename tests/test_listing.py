import unittest

from asking import NOT_TUPLES, WRONG_KINDS, Asking, beyond, kind
from counting import coloured_partitions, many_kinds, plain_partitions

from etaparts.errors import InvalidKind, InvalidMany, InvalidNumber
from etaparts.listing import count_row, counts_by_many, is_partition, partition_count, partitions
from etaparts.powers import kind_row, plain_kind_row

PLAIN, UNLIKE, EVEN = kind(1, (1, 0)), kind(1, (1, 1)), kind(2, (1, 0), (0, 0))
NONE, SIX, PAIRS = kind(1, (0, 0)), kind(1, (6, 0)), kind(2, (2, 2), (1, 3))
GREATEST = kind(12, *[(6, rest % 6 + 1) for rest in range(12)])
KINDS = [PLAIN, UNLIKE, EVEN, NONE, PAIRS, kind(3, (0, 0), (1, 1), (2, 0)), kind(1, (2, 2)), kind(4, *[(1, 6)] * 4)]

# What is no partition of the kind of all parts in one colour; ((300, 0),) is one.
WRONG_PARTITIONS = NOT_TUPLES + [
    [(1, 0)], ("1",), (1,), (1, 0), (None,), ((),), ((1,),), ((1, 0, 0),), ([1, 0],), ((1, 0), [1, 0]), ((1, 0), None),
    ((0, 0),), ((-1, 0),), ((1, 0), (0, 0)), ((1, -1),), ((1, 1),), ((2, 0), (1, 1)), ((True, 0),), ((1, False),),
    ((2, 0), (True, 0)), (("1", 0),), ((1, "0"),), ((1, None),), (((1,), 0),), ((1, 0), (2, 0)), ((3, 0), (1, 0), (2, 0)),
    ((301, 0),), ((300, 0), (1, 0)), ((1, 0),) * 301, ((151, 0), (150, 0)), ((10 ** 29, 0),), {(1, 0): 1}, "10",
]


class TestPartitions(Asking):
    def test_against_a_plain_listing(self):
        for one in KINDS:
            for number in range(9):
                self.same(partitions(one, number), coloured_partitions(one, number))
        for one in many_kinds(2):
            for number in (1, 4, 6):
                wanted = coloured_partitions(one, number)
                if len(wanted) <= 2000:
                    self.same(partitions(one, number), wanted)
        for one in (PLAIN, UNLIKE, EVEN):
            self.same(partitions(one, 17), coloured_partitions(one, 17))

    def test_the_sequence(self):
        for one in (PLAIN, UNLIKE, PAIRS):
            found = partitions(one, 14)
            self.assertEqual(found, sorted(found))
            for ahead in found:
                for behind in found:
                    self.assertFalse(ahead != behind and behind[:len(ahead)] == ahead)

    def test_edges(self):
        for one in KINDS + [SIX, GREATEST]:
            self.same(partitions(one, 0), [()])
        self.same(partitions(NONE, 1), [])
        self.same(partitions(NONE, 60), [])
        self.same(partitions(EVEN, 59), [])
        self.same(partitions(SIX, 1), [((1, colour),) for colour in range(6)])
        self.same(partitions(kind(1, (2, 1)), 2), [((1, 1), (1, 0)), ((2, 0),), ((2, 1),)])
        self.same(partitions(kind(12, (1, 5), *[(0, 0)] * 11), 60)[0], ((12, 0),) * 5)
        self.same(partitions(kind(12, (1, 4), *[(0, 0)] * 11), 60)[0], ((24, 0), (12, 0), (12, 0), (12, 0)))
        self.same(partitions(kind(12, (0, 0), *[(6, 6)] + [(0, 0)] * 10), 0), [()])
        # Of these parts no choice adds up to an odd number, however many add up to less.
        self.same(partitions(kind(2, (6, 0), (0, 0)), 59), [])

    def test_too_many(self):
        just = [(kind(2, (2, 4), (1, 3)), 20), (kind(2, (4, 2), (2, 4)), 11), (kind(3, (2, 2), (1, 0), (1, 3)), 22),
                (kind(3, (1, 5), (0, 0), (1, 3)), 48)]
        for one, number in just:
            found = partitions(one, number)
            self.assertEqual(len(found), 2000)
            self.assertEqual(found, sorted(found))
            self.assertTrue(all(is_partition(one, partition) for partition in found))
        more = [(kind(2, (2, 4), (3, 2)), 12), (kind(3, (1, 2), (2, 1), (0, 0)), 39), (kind(2, (3, 4), (3, 3)), 10)]
        for one, number in more:
            self.assertEqual(partition_count(one, number), 2001)
            self.too_many("partitions", 2000, partitions, one, number)
        self.assertEqual(len(partitions(PLAIN, 25)), 1958)
        self.too_many("partitions", 2000, partitions, PLAIN, 26)
        self.too_many("partitions", 2000, partitions, SIX, 60)
        self.too_many("partitions", 2000, partitions, GREATEST, 60)

    def test_new_lists(self):
        self.new_each_time(partitions, PLAIN, 4)

    def test_wrong_values(self):
        self.refused(InvalidKind, WRONG_KINDS, lambda value: partitions(value, 1))
        self.refused(InvalidNumber, beyond(0, 60), lambda value: partitions(PLAIN, value))
        self.told(InvalidKind, {"value": None}, partitions, None, 61)
        self.told(InvalidNumber, {"value": 61}, partitions, SIX, 61)


class TestCounts(Asking):
    def test_against_the_lists(self):
        for one in KINDS:
            wanted = [len(coloured_partitions(one, number)) for number in range(9)]
            self.same(count_row(one, 9), wanted)
            self.same([partition_count(one, number) for number in range(9)], wanted)

    def test_against_the_powers(self):
        for one in KINDS + many_kinds(4) + [SIX, GREATEST]:
            self.same(count_row(one, 100), kind_row(one, 100))
        for one in (SIX, GREATEST, PAIRS, UNLIKE):
            self.assertEqual(count_row(one, 300), kind_row(one, 300))
            self.assertEqual(partition_count(one, 300), kind_row(one, 301)[300])
            self.assertEqual(count_row(one, 300), plain_kind_row(one, 300))

    def test_edges(self):
        self.same(count_row(PLAIN, 0), [])
        self.same(count_row(PLAIN, 1), [1])
        self.same(count_row(NONE, 3), [1, 0, 0])
        self.same(partition_count(PLAIN, 0), 1)
        self.same(partition_count(NONE, 0), 1)
        self.same(partition_count(NONE, 300), 0)
        self.same(partition_count(EVEN, 299), 0)
        self.same(partition_count(PLAIN, 300), 9253082936723602)
        self.same(partition_count(PLAIN, 200), 3972999029388)
        self.same(partition_count(kind(12, (1, 6), *[(0, 0)] * 11), 84), partition_count(PLAIN, 7) - 1)

    def test_new_lists(self):
        self.new_each_time(count_row, PLAIN, 4)

    def test_wrong_values(self):
        self.refused(InvalidKind, WRONG_KINDS, lambda value: partition_count(value, 1))
        self.refused(InvalidNumber, beyond(0, 300), lambda value: partition_count(PLAIN, value))
        self.told(InvalidKind, {"value": None}, partition_count, None, -1)
        self.refused(InvalidKind, WRONG_KINDS, lambda value: count_row(value, 1))
        self.refused(InvalidMany, beyond(0, 300), lambda value: count_row(PLAIN, value))
        self.told(InvalidKind, {"value": None}, count_row, None, 301)


class TestCountsByMany(Asking):
    def test_against_the_lists(self):
        for one in KINDS + many_kinds(1):
            for number in range(8):
                lengths = [len(partition) for partition in coloured_partitions(one, number)]
                self.same(counts_by_many(one, number), [(many, lengths.count(many)) for many in sorted(set(lengths))])
        for one in (PLAIN, UNLIKE, EVEN):
            lengths = [len(partition) for partition in coloured_partitions(one, 18)]
            self.same(counts_by_many(one, 18), [(many, lengths.count(many)) for many in sorted(set(lengths))])

    def test_together_they_are_all(self):
        for one in KINDS + many_kinds(2) + [SIX, GREATEST]:
            for number in (0, 1, 30, 60):
                found = counts_by_many(one, number)
                self.assertEqual(sum(count for _, count in found), partition_count(one, number))
                self.assertEqual(found, sorted(found))
                self.assertTrue(all(count > 0 for _, count in found))

    def test_edges(self):
        self.same(counts_by_many(PLAIN, 0), [(0, 1)])
        self.same(counts_by_many(NONE, 0), [(0, 1)])
        self.same(counts_by_many(NONE, 5), [])
        self.same(counts_by_many(EVEN, 59), [])
        self.same(counts_by_many(EVEN, 4), [(1, 1), (2, 1)])
        self.same(counts_by_many(SIX, 2), [(1, 6), (2, 21)])
        self.same(counts_by_many(UNLIKE, 6), [(1, 1), (2, 2), (3, 1)])
        self.same(counts_by_many(kind(12, *[(0, 0)] * 11, (1, 0)), 46), [(2, 2)])
        self.same(counts_by_many(PLAIN, 60)[-1], (60, 1))

    def test_new_lists(self):
        self.new_each_time(counts_by_many, PLAIN, 4)

    def test_wrong_values(self):
        self.refused(InvalidKind, WRONG_KINDS, lambda value: counts_by_many(value, 1))
        self.refused(InvalidNumber, beyond(0, 60), lambda value: counts_by_many(PLAIN, value))
        self.told(InvalidKind, {"value": None}, counts_by_many, None, 61)


class TestIsPartition(Asking):
    def test_all_listed_ones_are(self):
        for one in KINDS:
            for number in range(8):
                for partition in coloured_partitions(one, number):
                    self.yes(is_partition(one, partition))

    def test_only_listed_ones_are(self):
        for one in KINDS:
            listed = {number: coloured_partitions(one, number) for number in range(7)}
            for number in range(7):
                for sizes in plain_partitions(number):
                    for shift in range(3 ** min(number, 3)):
                        value = tuple((size, shift // 3 ** min(place, 3) % 3) for place, size in enumerate(sizes))
                        self.assertIs(is_partition(one, value), value in listed[number], (one, value))

    def test_wrong_values(self):
        right = [(), ((300, 0),), ((1, 0),) * 300, ((150, 0), (150, 0)), ((299, 0), (1, 0))]
        self.only_for(lambda value: is_partition(PLAIN, value), right, WRONG_PARTITIONS)

    def test_other_kinds(self):
        self.yes(is_partition(UNLIKE, ((3, 0), (2, 0), (1, 0))))
        self.no(is_partition(UNLIKE, ((3, 0), (1, 0), (1, 0))))
        self.no(is_partition(EVEN, ((2, 0), (1, 0))))
        self.no(is_partition(NONE, ((1, 0),)))
        self.yes(is_partition(NONE, ()))
        self.yes(is_partition(PAIRS, ((2, 1), (2, 1), (2, 0), (2, 0), (1, 0), (1, 0), (1, 0))))
        self.no(is_partition(PAIRS, ((2, 1), (2, 1), (2, 1), (2, 0))))
        self.no(is_partition(PAIRS, ((2, 1), (2, 0), (2, 0), (2, 0))))
        self.no(is_partition(PAIRS, ((1, 0),) * 4))
        self.no(is_partition(PAIRS, ((2, 0), (2, 1))))
        self.no(is_partition(PAIRS, ((2, 2),)))
        self.yes(is_partition(SIX, ((3, 5), (3, 5), (3, 0))))
        self.no(is_partition(SIX, ((3, 6),)))

    def test_wrong_kinds(self):
        self.refused(InvalidKind, WRONG_KINDS, lambda value: is_partition(value, ()))
        self.told(InvalidKind, {"value": None}, is_partition, None, None)


if __name__ == "__main__":
    unittest.main()
