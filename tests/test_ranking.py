import unittest

from asking import NOT_INTEGERS, WRONG_KINDS, Asking, beyond, kind
from counting import coloured_partitions, many_kinds
from test_listing import EVEN, GREATEST, KINDS, NONE, PAIRS, PLAIN, SIX, UNLIKE, WRONG_PARTITIONS

from etaparts.errors import InvalidKind, InvalidNumber, InvalidPartition, InvalidPosition
from etaparts.listing import is_partition, partition_count
from etaparts.ranking import greatest_partition, least_partition, next_partition, partition_at, position_of


class TestRanking(Asking):
    def test_against_the_lists(self):
        for one in KINDS + many_kinds(1):
            for number in range(7):
                self.compare(one, coloured_partitions(one, number), number)
        for one in (PLAIN, UNLIKE, EVEN):
            self.compare(one, coloured_partitions(one, 15), 15)

    def compare(self, one, listed, number):
        self.same(least_partition(one, number), listed[0] if listed else None)
        self.same(greatest_partition(one, number), listed[-1] if listed else None)
        for position in list(range(len(listed)))[:300]:
            self.same(partition_at(one, number, position), listed[position])
            self.same(position_of(one, listed[position]), position)
            behind = listed[position + 1] if position + 1 < len(listed) else None
            self.same(next_partition(one, listed[position]), behind)
        self.told(InvalidPosition, {"value": len(listed)}, partition_at, one, number, len(listed))

    def test_great_numbers(self):
        for one in (PLAIN, UNLIKE, PAIRS, SIX, GREATEST):
            many = partition_count(one, 300)
            places = [0, 1, many // 3, many // 2 + 7, many - 2, many - 1]
            found = [partition_at(one, 300, place) for place in places]
            self.assertEqual(found, sorted(found))
            for place, partition in zip(places, found):
                self.yes(is_partition(one, partition))
                self.assertEqual(sum(size for size, _ in partition), 300)
                self.same(position_of(one, partition), place)
            self.same(least_partition(one, 300), found[0])
            self.same(greatest_partition(one, 300), found[-1])
            self.same(next_partition(one, found[0]), found[1])
            self.same(next_partition(one, found[-2]), found[-1])
            self.same(next_partition(one, found[-1]), None)
            self.told(InvalidPosition, {"value": many}, partition_at, one, 300, many)

    def test_all_in_their_sequence(self):
        for one, number in ((PLAIN, 22), (PAIRS, 10), (kind(2, (2, 4), (1, 3)), 20)):
            partition, many = least_partition(one, number), 0
            while partition is not None:
                many += 1
                behind = next_partition(one, partition)
                self.assertTrue(behind is None or behind > partition)
                partition = behind
            self.assertEqual(many, partition_count(one, number))

    def test_edges(self):
        for one in KINDS:
            self.same(partition_at(one, 0, 0), ())
            self.same(position_of(one, ()), 0)
            self.same(least_partition(one, 0), ())
            self.same(greatest_partition(one, 0), ())
            self.same(next_partition(one, ()), None)
            self.told(InvalidPosition, {"value": 1}, partition_at, one, 0, 1)
        self.same(least_partition(PLAIN, 300), ((1, 0),) * 300)
        self.same(greatest_partition(PLAIN, 300), ((300, 0),))
        self.same(next_partition(PLAIN, ((1, 0),) * 300), ((2, 0),) + ((1, 0),) * 298)
        self.same(position_of(SIX, ((300, 5),)), partition_count(SIX, 300) - 1)
        for number in (1, 300):
            self.same(least_partition(NONE, number), None)
            self.same(greatest_partition(NONE, number), None)
            self.told(InvalidPosition, {"value": 0}, partition_at, NONE, number, 0)
        self.same(least_partition(EVEN, 299), None)
        self.same(greatest_partition(EVEN, 299), None)
        self.told(InvalidPosition, {"value": 0}, partition_at, EVEN, 299, 0)

    def test_wrong_values(self):
        for call in (least_partition, greatest_partition, lambda one, number: partition_at(one, number, 0)):
            self.refused(InvalidKind, WRONG_KINDS, lambda value: call(value, 1))
            self.refused(InvalidNumber, beyond(0, 300), lambda value: call(PLAIN, value))
            self.told(InvalidKind, {"value": None}, call, None, 301)
        self.refused(InvalidPosition, NOT_INTEGERS + [-1, 5, 10 ** 29, -10 ** 29], lambda value: partition_at(PLAIN, 4, value))
        self.told(InvalidKind, {"value": None}, partition_at, None, 301, -1)
        self.told(InvalidNumber, {"value": 301}, partition_at, PLAIN, 301, -1)

    def test_wrong_partitions(self):
        for call in (position_of, next_partition):
            self.refused(InvalidKind, WRONG_KINDS, lambda value: call(value, ()))
            self.refused(InvalidPartition, WRONG_PARTITIONS, lambda value: call(PLAIN, value))
            self.told(InvalidKind, {"value": None}, call, None, None)
            for one, value in ((UNLIKE, ((1, 0), (1, 0))), (EVEN, ((1, 0),)), (NONE, ((1, 0),)), (PAIRS, ((1, 0),) * 4),
                               (PAIRS, ((2, 0), (2, 1))), (SIX, ((1, 6),)), (GREATEST, ((1, 0),) * 3)):
                self.told(InvalidPartition, {"value": value}, call, one, value)


if __name__ == "__main__":
    unittest.main()
