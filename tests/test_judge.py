import unittest

from asking import EULER, NOT_TUPLES, PARTS, WRONG_KINDS, WRONG_LEVELS, WRONG_PRODUCTS, WRONG_SUMS, Asking, beyond, kind, product
from asking import squares
from dividing_plainly import MANY, PAIRS, TAU, THREES
from test_hecke import GREAT, LATE, TWO, WHOLE, WRONG_PRIMES, plain_placed, serving
from test_multiples import MIXED

from etaparts.bounds import bound_of
from etaparts.clearing import told_clearing
from etaparts.dividing import decided_dividing
from etaparts.equal import decided_nought, decided_same
from etaparts.errors import TooMany
from etaparts.hecke import carried_row, placed_row, places_asked
from etaparts.judge import claim_words, is_claim, judged
from etaparts.multiples import decided_multiple
from etaparts.orbits import orbits
from etaparts.powers import kind_row, power_at, unlike_place
from etaparts.series import product_row
from etaparts.sums import sum_added, sum_less, sum_of
from etaparts.thetas import form_product

THREE, MINUS, LATER = product((1, -8), (2, 20), (4, -8)), product((1, 8), (2, -4)), product((2, -4), (4, 8))
JACOBI = sum_of([((1, 1), THREE), ((-1, 1), MINUS), ((-16, 1), LATER)])
PLAIN, ODD, ONCE = kind(1, (1, 0)), kind(2, (0, 0), (1, 0)), kind(1, (1, 1))
BAD = ("bad", ())
# Products of one kind at the level 120; the bound of the first two is 3,000, of the others 3,001.
AT_3000 = [product((1, 12), (2, 60), (3, 48), (5, -60), (6, -12), (8, 60), (10, -60), (15, -48), (24, 36), (30, -12), (60, -60)),
           product((2, -36), (3, -36), (4, -12), (5, 36), (8, -48), (12, -24), (15, 24), (20, 24), (24, -36), (30, -24), (40, 36),
                   (60, 60))]
BEYOND_3000 = [product((2, 12), (3, 12), (4, 60), (5, -36), (6, 12), (8, 36), (12, 36), (20, -48), (30, -60), (40, -36), (60, -12)),
               product((1, -60), (2, -60), (3, -36), (4, -36), (5, 48), (8, -48), (20, 60), (24, 12), (30, 60), (40, 36))]
# One claim of each word, a true one.
TRUE = {
    "nought": ("nought", 4, JACOBI), "same": ("same", 4, sum_of([((1, 1), THREE)]), sum_of([((1, 1), MINUS), ((16, 1), LATER)])),
    "kinds": ("kinds", ODD, ONCE), "dividing": ("dividing", PARTS, 5, 4, 5, 5, 1, 5), "spoilt": ("spoilt", PARTS, 5, 3, 5, 3, 0),
    "ways": ("ways", squares(1, 1, 2), form_product(squares(1, 1, 2))), "multiple": ("multiple", 11, TWO, 3, -1)}


def single(*powers):
    return sum_of([((1, 1), product(*powers))])


class TestClaims(Asking):
    def test_words(self):
        self.same(claim_words(), [("dividing", 7), ("kinds", 2), ("multiple", 4), ("nought", 2), ("same", 3), ("spoilt", 6),
                                  ("ways", 2)])
        self.new_each_time(claim_words)

    def test_parts_of_whatever_worth(self):
        for word, many in claim_words():
            for part in (0, -1, 10 ** 30 - 1, 1 - 10 ** 30, "a", "abcdefghijkl", (), ((),), ("product", ((1, -1),)), (1, "b", (2, ()))):
                self.yes(is_claim((word,) + (part,) * many))
                self.no(is_claim((word,) + (part,) * (many - 1)))
                self.no(is_claim((word,) + (part,) * (many + 1)))
                self.no(is_claim([word] + [part] * many))
            for part in (10 ** 30, -10 ** 30, "", "abcdefghijklm", "A", "a1", "a b", "1", " a", "a\n", "_", True, False, None, [], [1],
                         {}, {1: 1}, {1}, b"a", object(), (1, True), (1, (False,)), ("A",), ("",), ((1, [2]),), (None,), (10 ** 30,)):
                for at in range(many):
                    self.no(is_claim((word,) + (1,) * at + (part,) + (1,) * (many - at - 1)))

    def test_depths_and_lengths(self):
        deep = ()
        for _ in range(11):
            deep = (deep,)
        self.yes(is_claim(("ways", deep, 1)))
        self.no(is_claim(("ways", (deep,), 1)))
        self.no(is_claim(("ways", 1, (1, deep))))
        number, word = 5, "a"
        for _ in range(11):
            number, word = (number,), (1, word)
        self.yes(is_claim(("ways", number, word)))
        self.no(is_claim(("ways", (number,), 1)))
        self.no(is_claim(("ways", 1, (word,))))
        for _ in range(50):
            deep = (deep,)
        self.no(is_claim(("ways", deep, deep)))
        self.yes(is_claim(("ways", (1,) * 2000, ((),) * 2000)))
        self.no(is_claim(("ways", (1,) * 2001, 1)))
        self.no(is_claim(("ways", 1, ((1,) * 2001,))))

    def test_what_is_no_claim(self):
        wrong = NOT_TUPLES + [(), ("ways",), ("other", 1, 1), ("Ways", 1, 1), (b"ways", 1, 1), (None, 1, 1), (1, 1, 1), (("ways",), 1, 1),
                              ("ways", 1, 1, 1), ["ways", 1, 1], "ways", ("ways", [1], 1), ({}, 1, 1), ([], 1, 1)]
        for value in wrong:
            self.no(is_claim(value))
            self.same(judged(value), BAD)

    def test_a_true_one_of_each_word(self):
        self.assertEqual(sorted(TRUE), [word for word, _ in claim_words()])
        for word in TRUE:
            self.yes(is_claim(TRUE[word]))
            self.same(judged(TRUE[word]), ("ok", word))
            # With one part too few, too many, and each part nonsense.
            self.same(judged(TRUE[word][:-1]), BAD)
            self.same(judged(TRUE[word] + (1,)), BAD)
            for at in range(1, len(TRUE[word])):
                for part in ("x", (), (1, 2), ("product",), -1, 10 ** 29, ("sum", 5), True, None, ["sum", ()], ("product", ((0, 0),))):
                    told = judged(TRUE[word][:at] + (part,) + TRUE[word][at + 1:])
                    if (word, part) == ("multiple", -1) and at == 4:
                        self.same(told, ("ok", "multiple"))
                    elif word == "multiple" and at == 4 and part == 10 ** 29:
                        self.same(told, ("bad", (1,)))
                    else:
                        self.same(told, BAD)


class TestSums(Asking):
    def test_known(self):
        self.same(judged(("nought", 1, ("sum", ()))), ("ok", "nought"))
        self.same(judged(("nought", 1, single((1, 24)))), ("bad", (1,)))
        self.same(judged(("nought", 4, ("sum", JACOBI[1][1:]))), ("bad", (1,)))
        self.same(judged(("same", 1, ("sum", ()), ("sum", ()))), ("ok", "same"))
        self.same(judged(("same", 1, single((1, 24)), ("sum", ()))), ("bad", (1,)))
        self.same(judged(("same", 1, ("sum", ()), single((1, 24)))), ("bad", (1,)))
        self.same(judged(("same", 4, JACOBI, ("sum", ()))), ("ok", "same"))
        self.same(judged(("same", 4, JACOBI, JACOBI)), ("ok", "same"))
        self.same(judged(("same", 1, single((1, 24)), single((1, 24)))), ("ok", "same"))
        # Of shifts below 0 places are below 0.
        self.same(judged(("nought", 1, single((1, -24)))), ("bad", (-1,)))
        self.same(judged(("same", 1, single((1, -24)), ("sum", ()))), ("bad", (-1,)))
        self.same(judged(("nought", 1, single((1, 48)))), ("bad", (2,)))

    def test_against_what_is_decided(self):
        things = [THREE, MINUS, LATER, product((1, -4), (2, 14), (4, -6)), product((1, 4), (2, -2), (4, 2))]
        coefficients = [(1, 1), (-1, 1), (-16, 1), (16, 1), (1, 2), (0, 1)]
        seen = {}
        sums = [sum_of([(one, THREE), (other, MINUS), (third, LATER)]) for one in coefficients for other in coefficients[::2]
                for third in coefficients[1:4]] + [single(*thing[1]) for thing in things]
        for total in sums:
            try:
                told = decided_nought(4, total)
            except Exception:
                self.same(judged(("nought", 4, total)), BAD)
                continue
            wanted = ("ok", "nought") if told[0] == "nought" else ("bad", (told[1],))
            self.same(judged(("nought", 4, total)), wanted)
            seen[wanted[0]] = seen.get(wanted[0], 0) + 1
            for other in (JACOBI, single(*THREE[1]), ("sum", ())):
                told = decided_same(4, total, other)
                wanted = ("ok", "same") if told[0] == "nought" else ("bad", (told[1],))
                self.same(judged(("same", 4, total, other)), wanted)
                self.same(judged(("same", 4, other, total)), wanted)
        self.assertEqual(sorted(seen), ["bad", "ok"])

    def test_what_does_not_fit(self):
        for total in (single((1, -1)), single((1, 12)), ("sum", (((1, 1), THREE), ((1, 1), product((1, 24))))),
                      ("sum", (((1, 1), ("divisors", "two", 4)),)), ("sum", (((1, 1), ("divisors", "four", 1)), ((1, 1), TAU)))):
            self.same(judged(("nought", 4, total)), BAD)
            self.same(judged(("same", 4, total, ("sum", ()))), BAD)
            self.same(judged(("same", 4, ("sum", ()), total)), BAD)
            self.same(judged(("same", 4, total, total)), BAD)
        # Each fits, with unlike kinds.
        self.same(judged(("same", 4, single(*THREE[1]), single((1, 24)))), BAD)
        self.same(judged(("nought", 2, JACOBI)), BAD)
        self.same(judged(("same", 2, JACOBI, JACOBI)), BAD)

    def test_wrong_parts(self):
        for value in WRONG_LEVELS:
            self.same(judged(("nought", value, ("sum", ()))), BAD)
            self.same(judged(("same", value, ("sum", ()), ("sum", ()))), BAD)
        for value in WRONG_SUMS:
            self.same(judged(("nought", 1, value)), BAD)
            self.same(judged(("same", 1, value, ("sum", ()))), BAD)
            self.same(judged(("same", 1, ("sum", ()), value)), BAD)

    def test_places_beyond_three_thousand(self):
        for things, bound, first in ((AT_3000, 3000, -168), (BEYOND_3000, 3001, -167)):
            total = sum_of([((1, 1), things[0]), ((-1, 1), things[1])])
            self.same(bound_of(120, things), (bound, 1))
            self.same(judged(("nought", 120, total)), ("bad", (first,)) if bound == 3000 else BAD)
            # The terms that fall out count, too: the bound is that of the things of both.
            self.same(judged(("same", 120, total, total)), ("ok", "same") if bound == 3000 else BAD)
            # Of each alone there are few places.
            for thing in things:
                self.same(judged(("same", 120, single(*thing[1]), single(*thing[1]))), ("ok", "same"))


class TestKinds(Asking):
    def test_against_powers_and_rows(self):
        kinds = [PLAIN, ODD, ONCE, kind(3, (2, 1), (1, 0), (1, 0)), kind(3, (0, 0), (1, 0), (1, 0)), kind(1, (1, 2)), kind(1, (2, 0)),
                 kind(2, (1, 0), (1, 1)), kind(4, (1, 0), (2, 1), (0, 0), (2, 1)), kind(1, (0, 0)), kind(2, (0, 0), (0, 0))]
        seen = []
        for one in kinds:
            for other in kinds:
                place = unlike_place(one, other)
                wanted = ("ok", "kinds") if place is None else ("bad", (place,))
                self.same(judged(("kinds", one, other)), wanted)
                self.assertEqual(place is None, kind_row(one, 100) == kind_row(other, 100))
                if place is not None:
                    self.assertNotEqual(power_at(one, place), power_at(other, place))
                seen.append(wanted[0])
        self.assertTrue(seen.count("ok") > len(kinds))
        self.same(judged(("kinds", PLAIN, ONCE)), ("bad", (2,)))

    def test_wrong_parts(self):
        for value in WRONG_KINDS:
            self.same(judged(("kinds", value, PLAIN)), BAD)
            self.same(judged(("kinds", PLAIN, value)), BAD)


class TestSections(Asking):
    def test_against_what_is_decided(self):
        seen = {}
        for one in MANY[:10]:
            row = product_row(one, 300)
            for m in (1, 2, 3, 5, 7):
                for rests in orbits(one, m):
                    try:
                        level, step, power, value = told_clearing(one, m, rests[0])
                    except TooMany:
                        continue
                    if m * (value[0] // value[1]) + m > 3000:
                        continue
                    for u in (2, 3, 5):
                        for t in rests:
                            told = judged(("dividing", one, m, t, u, level, step, power))
                            try:
                                paper = decided_dividing(one, m, t, u)
                            except TooMany:
                                continue
                            wanted = ("ok", "dividing") if paper[0] == "divisible" else ("bad", paper[1:3])
                            self.same(told, wanted)
                            seen[told[0]] = seen.get(told[0], 0) + 1
                            for rest in range(m):
                                wrong = rest in rests and row[3 * m + rest] % u != 0
                                claim = ("spoilt", one, m, t, u, rest, 3)
                                self.same(judged(claim), ("ok", "spoilt") if wrong else BAD)
        self.assertTrue(min(seen.values()) > 100, seen)

    def test_known(self):
        self.same([judged(("dividing", PARTS, 5, 4, 5, 5, 1, power)) for power in (4, 5, 6)],
                  [BAD, ("ok", "dividing"), ("ok", "dividing")])
        self.same([judged(("dividing", PARTS, 5, 4, 5, level, 1, 5)) for level in (5, 7, 10)],
                  [("ok", "dividing"), BAD, ("ok", "dividing")])
        self.same([judged(("dividing", PARTS, 5, 4, 25, 5, 1, 5)), judged(("dividing", PARTS, 5, 3, 5, 5, 1, 5))],
                  [("bad", (4, 0)), ("bad", (0, 0))])
        # The least n, then the least rest: 1 and 2 are an orbit, 2 is spoilt by 2 at n 1, not at n 0.
        self.same(judged(("dividing", PARTS, 5, 2, 2, 5, 1, 30)), ("bad", (1, 0)))
        self.same(judged(("dividing", THREES, 3, 2, 27, 3, 1, 9)), ("bad", (2, 0)))
        self.same(judged(("dividing", product(), 2, 1, 2, 2, 1, 0)), ("ok", "dividing"))
        self.same(judged(("dividing", PARTS, 7, 5, 49, 7, 1, 7)), ("bad", (5, 0)))
        # m, u and the level at the ends of their bounds.
        self.same(judged(("dividing", product(), 30, 29, 1000, 30, 1, 0)), ("ok", "dividing"))
        self.same(judged(("dividing", product(), 30, 29, 1000, 120, 1, 0)), ("ok", "dividing"))
        self.same(judged(("dividing", PARTS, 11, 6, 11, 11, 1, 11)), ("ok", "dividing"))
        self.same(judged(("dividing", PARTS, 11, 6, 11, 121, 1, 11)), BAD)
        self.same([judged(("spoilt", PARTS, 5, 3, 5, 3, 0)), judged(("spoilt", PARTS, 5, 3, 5, 0, 0)), judged(("spoilt", PARTS, 5, 3, 5, 1, 0))],
                  [("ok", "spoilt"), ("ok", "spoilt"), BAD])
        self.same([judged(("spoilt", PARTS, 5, 4, 5, 4, 0)), judged(("spoilt", PARTS, 5, 4, 25, 4, 0))], [BAD, ("ok", "spoilt")])

    def test_bounds_above_two_hundred(self):
        # The judge asks places to 3,000, not a bound to 200.
        for power, right in ((965, True), (966, True), (2000, True), (2880, True), (3000, False), (10 ** 29, False)):
            self.same(judged(("dividing", PARTS, 5, 4, 5, 5, 1, power)), ("ok", "dividing") if right else BAD)
        # By 25: 25 * 119 + 24 is the last place below 3,000.
        self.same(judged(("dividing", PARTS, 25, 24, 25, 5, 1, 581)), ("ok", "dividing"))
        self.same(judged(("dividing", PARTS, 25, 24, 25, 5, 1, 582)), BAD)
        # Though a number is wrong at the first place already.
        self.same(judged(("dividing", PARTS, 25, 24, 11, 5, 1, 581)), ("bad", (24, 0)))
        self.same(judged(("dividing", PARTS, 25, 24, 11, 5, 1, 582)), BAD)

    def test_spoilt_places(self):
        row = product_row(PARTS, 3000)
        u = [u for u in range(2, 50) if row[2999] % u][0]
        self.same(judged(("spoilt", PARTS, 1, 0, u, 0, 2999)), ("ok", "spoilt"))
        self.same(judged(("spoilt", product((3, -1)), 15, 0, [u for u in range(2, 50) if row[1000] % u][0], 0, 200)), ("ok", "spoilt"))
        for u in range(2, 30):
            self.same(judged(("spoilt", PARTS, 2, 1, u, 1, 1500)), BAD)
        for u in range(2, 8):
            self.same(judged(("spoilt", PARTS, 1, 0, u, 0, 3001)), BAD)
            self.same(judged(("spoilt", PARTS, 1, 0, u, 0, 10 ** 29)), BAD)
            self.same(judged(("spoilt", PARTS, 30, 0, u, 0, 101)), BAD)
            self.same(judged(("spoilt", PARTS, 5, 0, u, 0, -1)), BAD)

    def test_wrong_parts(self):
        right = {"dividing": TRUE["dividing"][1:], "spoilt": TRUE["spoilt"][1:]}
        wrong = {0: WRONG_PRODUCTS, 1: beyond(1, 30), 2: beyond(0, 4) + [5], 3: beyond(2, 1000), 4: WRONG_LEVELS,
                 5: beyond(1, 5) + [2, 3, 4], 6: beyond(5, 10 ** 28)}
        for word in right:
            for at in range(len(right[word])):
                if word == "spoilt" and at > 3:
                    continue
                for value in wrong[at]:
                    self.same(judged((word,) + right[word][:at] + (value,) + right[word][at + 1:]), BAD)
        for value in beyond(0, 4) + [1, 2, 4, True]:
            self.same(judged(("spoilt", PARTS, 5, 3, 5, value, 0)), BAD)
        self.same(judged(("spoilt", PARTS, 5, 3, 5, False, 0)), BAD)
        self.same(judged(("spoilt", PARTS, 5, 3, 5, 3, False)), BAD)


class TestWays(Asking):
    def test_against_forms(self):
        forms = [squares(1), squares(1, 1), squares(1, 2), squares(2, 2, 3), squares(1, 1, 1, 1), squares(12), squares(1, 2, 4, 8)]
        for form in forms:
            for other in forms:
                told = judged(("ways", form, form_product(other)))
                self.same(told, ("ok", "ways") if form == other else BAD)

    def test_forms_without_a_product(self):
        # These have more than twelve steps.
        wide = squares(1, 3, 5, 7, 9, 11)
        self.assertRaises(TooMany, form_product, wide)
        self.same(judged(("ways", wide, PARTS)), BAD)

    def test_wrong_parts(self):
        for value in WRONG_PRODUCTS:
            self.same(judged(("ways", squares(1), value)), BAD)
        for value in NOT_TUPLES + [(), ("squares", ()), squares(0), squares(2, 1), squares(13), PARTS]:
            self.same(judged(("ways", value, form_product(squares(1)))), BAD)


class TestMultiples(Asking):
    def test_against_what_is_decided(self):
        seen = {}
        for level, one in WHOLE + [(5, MIXED)]:
            many = places_asked(level, one)
            for p in serving(level, 13):
                if p * many > 3000:
                    continue
                paper = decided_multiple(level, one, p)
                row, carried = plain_placed(one, many + 1), carried_row(level, one, p, many + 1)
                number = paper[1] if paper[0] == "multiple" else carried[-1]
                for at in (number, number + 1, 0):
                    unlike = [n for n in range(many + 1) if carried[n] != at * row[n]]
                    wanted = ("bad", (unlike[0],)) if unlike else ("ok", "multiple")
                    self.same(judged(("multiple", level, one, p, at)), wanted)
                    seen[wanted[0]] = seen.get(wanted[0], 0) + 1
        self.assertTrue(min(seen.values()) > 20, seen)

    def test_known(self):
        self.same([judged(("multiple", 1, TAU, 3, 252)), judged(("multiple", 1, TAU, 3, 251)), judged(("multiple", 1, GREAT, 3, 0))],
                  [("ok", "multiple"), ("bad", (1,)), ("bad", (1,))])
        self.same([judged(("multiple", 11, TWO, 3, -1)), judged(("multiple", 23, LATE, 5, 0))], [("ok", "multiple")] * 2)
        self.same(judged(("multiple", 120, TAU, 7, -16744)), ("ok", "multiple"))
        self.same(judged(("multiple", 120, TAU, 11, placed_row(1, TAU, 12)[11])), BAD)
        self.same(judged(("multiple", 25, TAU, 97, placed_row(1, TAU, 98)[97])), ("ok", "multiple"))

    def test_wrong_parts(self):
        fifteen = product((1, 1), (3, 1), (5, 1), (15, 1))
        self.same(judged(("multiple", 15, fifteen, 7, 0))[0], "ok")
        for value in WRONG_LEVELS:
            self.same(judged(("multiple", value, TAU, 7, -16744)), BAD)
        for value in WRONG_PRODUCTS + [PARTS, EULER, PAIRS, product(), product((1, -24)), product((1, 12))]:
            self.same(judged(("multiple", 1, value, 7, -16744)), BAD)
        for value in WRONG_PRIMES:
            self.same(judged(("multiple", 15, fifteen, value, 0)), BAD)
        for value in NOT_TUPLES[:3] + ["", "a", (), (1,), [1], None]:
            self.same(judged(("multiple", 15, fifteen, 7, value)), BAD)
        # It fits, with an order below 0, or the weight 25.
        self.same(judged(("multiple", 2, product((1, -40), (2, 56)), 3, 0)), BAD)
        self.same(judged(("multiple", 23, product((1, 25), (23, 25)), 3, 0)), BAD)


class TestTruth(Asking):
    def test_sums_of_true_claims(self):
        # What is the same twice is nought once taken from one another.
        _, level, total, other = TRUE["same"]
        self.same(judged(("nought", level, sum_less(total, other))), ("ok", "nought"))
        self.same(judged(("same", level, sum_added(total, JACOBI), other)), ("ok", "same"))


if __name__ == "__main__":
    unittest.main()
