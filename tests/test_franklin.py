import unittest

from asking import EULER, Asking, beyond
from counting import plain_partitions
from test_glaisher import WRONG_PARTS

from etaparts.errors import InvalidMany, InvalidParts, InvalidTotal
from etaparts.franklin import exchanged, is_kept, kept_parts, sign_count, sign_row
from etaparts.glaisher import few_parts
from etaparts.series import product_row

NOT_UNLIKE = [(1, 1), (2, 2), (3, 3, 1), (5, 4, 4), (3, 1, 1), (200, 200), (1,) * 400, (9, 9, 8, 7)]


def unlike_parts(total):
    return [parts for parts in plain_partitions(total) if len(set(parts)) == len(parts)]


class TestExchanged(Asking):
    def test_all_small_ones(self):
        for total in range(27):
            kept = []
            for parts in unlike_parts(total):
                found = exchanged(parts)
                self.same(is_kept(parts), found is None)
                if found is None:
                    kept.append(parts)
                    continue
                self.assertIs(type(found), tuple)
                self.assertIn(found, unlike_parts(total))
                self.assertEqual(abs(len(found) - len(parts)), 1)
                self.same(exchanged(found), parts)
            self.same(kept_parts(total), kept[0] if kept else None)
            self.assertLessEqual(len(kept), 1)

    def test_how_it_is_done(self):
        for total in range(1, 27):
            for parts in unlike_parts(total):
                s, r = parts[-1], 1
                while r < len(parts) and parts[r] == parts[0] - r:
                    r += 1
                if r == len(parts) and s in (r, r + 1):
                    wanted = None
                elif s <= r:
                    wanted = tuple(part + (place < s) for place, part in enumerate(parts[:-1]))
                else:
                    wanted = tuple(part - (place < r) for place, part in enumerate(parts)) + (r,)
                self.same(exchanged(parts), wanted)

    def test_edges(self):
        self.same(exchanged(()), None)
        self.yes(is_kept(()))
        self.same(exchanged((1,)), None)
        self.same(exchanged((2,)), None)
        self.same(exchanged((3,)), (2, 1))
        self.same(exchanged((2, 1)), (3,))
        self.same(exchanged((400,)), (399, 1))
        self.same(exchanged((399, 1)), (400,))
        self.same(exchanged((6, 5, 4)), None)
        self.same(exchanged((5, 4, 3)), None)
        self.same(exchanged((7, 6, 5)), (6, 5, 4, 3))
        self.same(exchanged((4, 3, 2)), (5, 4))
        # The least part is as great as the run, or greater by 1, but it is not in the run.
        self.same(exchanged((7, 6, 2)), (8, 7))
        self.same(exchanged((7, 6, 3)), (6, 5, 3, 2))
        for j in range(1, 17):
            self.same(exchanged(tuple(range(2 * j - 1, j - 1, -1))), None)
            if j * (3 * j + 1) // 2 <= 400:
                self.same(exchanged(tuple(range(2 * j, j, -1))), None)

    def test_wrong_values(self):
        for call in (exchanged, is_kept):
            self.refused(InvalidParts, WRONG_PARTS + NOT_UNLIKE, call)


class TestKept(Asking):
    def test_kept_parts(self):
        wanted = {0: ()}
        for j in range(1, 30):
            wanted[j * (3 * j - 1) // 2] = tuple(range(2 * j - 1, j - 1, -1))
            wanted[j * (3 * j + 1) // 2] = tuple(range(2 * j, j, -1))
        for total in range(401):
            found = kept_parts(total)
            self.same(found, wanted.get(total))
            if found is not None:
                self.assertEqual(sum(found), total)
                self.yes(is_kept(found))
        self.same(kept_parts(400), None)
        self.same(kept_parts(392), tuple(range(32, 16, -1)))
        self.same(kept_parts(376), tuple(range(31, 15, -1)))

    def test_wrong_values(self):
        for call in (kept_parts, sign_count):
            self.refused(InvalidTotal, beyond(0, 400), call)


class TestSigns(Asking):
    def test_against_listing(self):
        for total in range(36):
            signs = [1 if len(parts) % 2 == 0 else -1 for parts in few_parts(2, total)]
            self.same(sign_count(total), sum(signs))
        for total in range(20):
            self.same(sign_count(total), sum(1 - 2 * (len(parts) % 2) for parts in unlike_parts(total)))

    def test_against_the_product(self):
        self.assertEqual(sign_row(3000), product_row(EULER, 3000))
        self.assertEqual([sign_count(total) for total in range(401)], product_row(EULER, 401))

    def test_edges(self):
        self.same(sign_row(0), [])
        self.same(sign_row(1), [1])
        self.same(sign_row(2), [1, -1])
        self.same(sign_row(3), [1, -1, -1])
        self.same(sign_count(0), 1)
        self.same(sign_count(400), 0)
        self.same(sign_count(392), 1)
        self.same(sign_count(376), 1)
        self.same(sign_count(330), -1)

    def test_new_lists(self):
        self.new_each_time(sign_row, 5)

    def test_wrong_values(self):
        self.refused(InvalidMany, beyond(0, 3000), sign_row)


if __name__ == "__main__":
    unittest.main()
