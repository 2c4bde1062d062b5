import unittest

from asking import NOT_TUPLES, PARTS, WRONG_PRODUCTS, Asking, beyond, product
from dividing_plainly import MANY, PAIRS, TAU, THREES

from etaparts.clearing import told_clearing
from etaparts.dividing import decided_dividing
from etaparts.errors import InvalidDivisor, InvalidMost, InvalidProduct, TooMany
from etaparts.orbits import orbits
from etaparts.searching import all_dividing
from etaparts.series import product_row
from etaparts.tables import is_find, is_table, table


def plain_table(one, most, u):
    found = []
    for m in range(2, most + 1):
        for rests in orbits(one, m):
            try:
                answer = decided_dividing(one, m, rests[0], u)
            except TooMany as beyond_it:
                answer = ("untold", beyond_it.what)
            found.append((m, tuple(rests), answer))
    return found


class TestTables(Asking):
    def test_against_each_section(self):
        words = []
        for one in MANY:
            for u in (2, 5, 11):
                told = table(one, 9, u)
                self.same(told, plain_table(one, 9, u))
                words += [answer[:2] if answer[0] == "untold" else answer[:1] for _, _, answer in told]
                self.yes(is_table(one, 9, u, told))
                self.yes(is_table(one, 9, u, tuple(told)))
        self.assertEqual(sorted(set(words)), [("divisible",), ("place",), ("untold", "level"), ("untold", "places")])

    def test_most_and_u_at_both_ends(self):
        self.same(table(PARTS, 2, 5), [(2, (0, 1), ("place", 0, 0, 1))])
        self.same(table(PARTS, 12, 1000), plain_table(PARTS, 12, 1000))
        self.same(table(TAU, 12, 2), plain_table(TAU, 12, 2))
        self.same(len(table(product(), 12, 2)), sum(len(orbits(product(), m)) for m in range(2, 13)))

    def test_known(self):
        self.same(table(PARTS, 5, 5), [
            (2, (0, 1), ("place", 0, 0, 1)), (3, (0, 1, 2), ("place", 0, 0, 1)), (4, (0, 1, 2, 3), ("place", 0, 0, 1)),
            (5, (0, 3), ("place", 0, 0, 1)), (5, (1, 2), ("place", 1, 0, 1)), (5, (4,), ("divisible", 5, 1, 5))])
        self.same([line for line in table(PARTS, 6, 2) if line[0] == 6], [(6, (0, 1, 2, 3, 4, 5), ("untold", "level"))])
        self.same([line[2] for line in table(product((1, -24)), 12, 2) if line[2][0] == "untold"][:1], [("untold", "places")])

    def test_of_two_and_their_common_multiple(self):
        for one in (PARTS, PAIRS, THREES, TAU, product(), product((1, -4)), product((1, -24))):
            for u, v, both in ((2, 5, 10), (3, 9, 9), (2, 3, 6), (4, 6, 12), (8, 125, 1000), (5, 7, 35)):
                tables = [table(one, 8, by) for by in (u, v, both)]
                for first, second, third in zip(*tables):
                    self.assertEqual(first[:2], third[:2])
                    told = first[2][0] == "divisible" and second[2][0] == "divisible"
                    self.assertEqual(third[2][0] == "divisible", told)

    def test_new_lists(self):
        self.new_each_time(table, PARTS, 3, 5)

    def test_wrong_values(self):
        for call in (table, lambda one, most, u: is_table(one, most, u, None), all_dividing):
            self.refused(InvalidProduct, WRONG_PRODUCTS, lambda value: call(value, 5, 5))
            self.refused(InvalidMost, beyond(2, 12) + [0], lambda value: call(PARTS, value, 5))
            self.refused(InvalidDivisor, beyond(2, 1000) + [0], lambda value: call(PARTS, 2, value))
            self.told(InvalidProduct, {"value": None}, call, None, 1, 1)
            self.told(InvalidMost, {"value": 13}, call, PARTS, 13, 1)


class TestIsTable(Asking):
    def bent(self, told, at, line):
        return told[:at] + [line] + told[at + 1:]

    def test_each_bent_line(self):
        told = table(PARTS, 6, 5)
        m, rests, answer = told[5]
        self.same(told[5], (5, (4,), ("divisible", 5, 1, 5)))
        wrong = [None, 5, "line", [5, (4,), answer], (5, (4,)), (5, (4,), answer, 0), (4, (4,), answer), (True, (4,), answer),
                 ("5", (4,), answer), (5, [4], answer), (5, 4, answer), (5, (3,), answer), (5, (4, 4), answer), (5, (), answer),
                 (5, ("4",), answer), (5, (4, None), answer), (5, (4,), None), (5, (4,), list(answer)), (5, (4,), answer[:3]),
                 (5, (4,), answer + (0,)), (5, (4,), ("divisible", 5, 1, 4)), (5, (4,), ("divisible", 7, 1, 5)),
                 (5, (4,), ("divisible", 5, 1, True)), (5, (4,), ("place", 4, 0, 5)), (5, (4,), ("place", 4, 0, 6)),
                 (5, (4,), ("untold", "level")), (5, (4,), ("untold", "places")), (5, (4,), ("untold",)), (5, (4,), ("untold", 5)),
                 (5, (4,), "divisible"), (5, (4,), ()), (5, (4,), ("other", 5, 1, 5))]
        for line in wrong:
            with self.subTest(line=line):
                self.no(is_table(PARTS, 6, 5, self.bent(told, 5, line)))
        right = [(5, (4,), ("divisible", 5, 1, 6)), (5, (4,), ("divisible", 10, 1, 5)), (5, (4,), ("divisible", 5, 5, 25))]
        for line in right:
            self.yes(is_table(PARTS, 6, 5, self.bent(told, 5, line)))

    def test_each_bent_place(self):
        told = table(PARTS, 6, 5)
        row = product_row(PARTS, 2000)
        self.same(told[3], (5, (0, 3), ("place", 0, 0, 1)))
        self.assertTrue(row[1010] % 5 and row[1013] % 5)
        right = [("place", 3, 0, 3), ("place", 3, 1, 22), ("place", 0, 1, 7), ("place", 3, 202, row[1013]),
                 ("place", 0, 202, row[1010])]
        wrong = [("place", 0, 0, 2), ("place", 0, 0, True), ("place", False, 0, 1), ("place", 0, False, 1), ("place", 1, 0, 1),
                 ("place", 4, 0, 5), ("place", 0, 0), ("place", 0, 0, 1, 0), ["place", 0, 0, 1], ("place", 0, -1, 1),
                 ("place", 0, 2, 42 + 1), ("place", 5, 0, 7), ("place", "0", 0, 1), ("place", 0, None, 1), ("untold", "places"),
                 ("place", 0, 10 ** 29, 1), ("place", 0, 601, 1), ("divisible", 5, 1, 5), ("divisible", 5, 1, 50)]
        for answer in right:
            with self.subTest(answer=answer):
                self.yes(is_table(PARTS, 6, 5, self.bent(told, 3, (5, (0, 3), answer))))
        for answer in wrong:
            with self.subTest(answer=answer):
                self.no(is_table(PARTS, 6, 5, self.bent(told, 3, (5, (0, 3), answer))))
        # The rests are integers, too: False and True are no 0 and 1.
        self.no(is_table(PARTS, 2, 5, [(2, (False, True), ("place", 0, 0, 1))]))
        self.yes(is_table(PARTS, 2, 5, [(2, (0, 1), ("place", 0, 0, 1))]))
        # A number that u divides is no answer.
        self.assertEqual(row[5], 7)
        self.no(is_table(PARTS, 2, 7, [(2, (0, 1), ("place", 1, 2, 7))]))

    def test_untold_lines(self):
        told = table(PARTS, 6, 2)
        self.same(told[-1], (6, (0, 1, 2, 3, 4, 5), ("untold", "level")))
        rests = told[-1][1]
        for answer in (("untold", "level"), ("place", 0, 0, 1), ("place", 1, 0, 1), ("place", 3, 0, 3)):
            self.yes(is_table(PARTS, 6, 2, self.bent(told, len(told) - 1, (6, rests, answer))))
        for answer in (("untold", "places"), ("untold", "digits"), ("untold", None), ("untold", b"level"), ("untold", "level", 120),
                       ["untold", "level"], ("untold",), ("place", 2, 0, 2), None):
            self.no(is_table(PARTS, 6, 2, self.bent(told, len(told) - 1, (6, rests, answer))))
        great = product((1, -24))
        told = table(great, 12, 5)
        at = [at for at, line in enumerate(told) if line[2] == ("untold", "places")][0]
        self.yes(is_table(great, 12, 5, told))
        self.no(is_table(great, 12, 5, self.bent(told, at, told[at][:2] + (("untold", "level"),))))

    def test_lines_left_out_put_in_exchanged(self):
        told = table(PARTS, 5, 5)
        for at in range(len(told)):
            self.no(is_table(PARTS, 5, 5, told[:at] + told[at + 1:]))
            self.no(is_table(PARTS, 5, 5, told[:at] + [told[at]] + told[at:]))
        self.no(is_table(PARTS, 5, 5, told[::-1]))
        self.no(is_table(PARTS, 6, 5, told))
        self.no(is_table(PARTS, 4, 5, told))
        self.no(is_table(PARTS, 5, 7, told))
        self.no(is_table(PAIRS, 5, 5, told))
        for value in NOT_TUPLES + [(), [told], (None,) * len(told), [[]] * len(told), {1: told}]:
            self.no(is_table(PARTS, 5, 5, value))


class TestFinds(Asking):
    def test_all_that_tables_tell(self):
        for one in (PARTS, PAIRS, THREES, product()):
            for u in (2, 3, 5, 9):
                for find in all_dividing(one, 8, u):
                    self.yes(is_find(one, u, find))
                    m, t, level, step, power = find
                    self.same((level, step, power), told_clearing(one, m, t)[:3])
                    self.no(is_find(one, u, (m, t, level, step, power - 1)) and power == 0)
                    self.no(is_find(one, 997, find) and one != product())

    def test_of_any_value(self):
        right = [(5, 4, 5, 1, 5), (5, 4, 5, 1, 6), (5, 4, 10, 1, 5), (25, 24, 5, 1, 25), (10, 9) + told_clearing(PARTS, 10, 9)[:3]]
        wrong = NOT_TUPLES + [
            (), (5, 4), (5, 4, 5, 1), (5, 4, 5, 1, 5, 0), [5, 4, 5, 1, 5], (5, 3, 5, 1, 0), (5, 4, 5, 1, 4), (5, 3, 5, 1, 5),
            (5, 5, 5, 1, 5), (5, -1, 5, 1, 5), (5, 4, 7, 1, 5), (5, 4, 5, 2, 50), (1, 0, 1, 1, 1), (0, 0, 5, 1, 5), (31, 4, 31, 1, 99),
            (True, 0, 1, 1, 1), (5, True, 5, 1, 5), (5, 4, 5, True, 5), (5, 4, 5, 1, True), ("5", 4, 5, 1, 5), (5, "4", 5, 1, 5),
            (5, 4, "5", 1, 5), (5, 4, 5, "1", 5), (5, 4, 5, 1, "5"), (None, 4, 5, 1, 5), (5, None, 5, 1, 5), (5, 4, None, 1, 5),
            (5, 4, 5, None, 5), (5, 4, 5, 1, None), ((5, 4), 5, 1, 5, 0), (5, 4, ("divisible", 5, 1, 5)), (5, 4, 125, 1, 5),
            (7, 5, 7, 1, 7)]
        self.only_for(lambda value: is_find(PARTS, 5, value), right, wrong)
        # By m 1 there are no finds, though all numbers may be divisible there.
        self.no(is_find(product(), 2, (1, 0, 1, 1, 0)))
        self.yes(is_find(product(), 2, (2, 1, 2, 1, 0)))
        self.yes(is_find(product(), 1000, (30, 29, 30, 1, 0)))

    def test_wrong_values(self):
        self.refused(InvalidProduct, WRONG_PRODUCTS, lambda value: is_find(value, 5, (5, 4, 5, 1, 5)))
        self.refused(InvalidDivisor, beyond(2, 1000), lambda value: is_find(PARTS, value, (5, 4, 5, 1, 5)))
        self.told(InvalidProduct, {"value": None}, is_find, None, 1, None)
        self.told(InvalidDivisor, {"value": 1001}, is_find, PARTS, 1001, None)


if __name__ == "__main__":
    unittest.main()
