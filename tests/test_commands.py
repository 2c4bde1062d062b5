import unittest
from math import gcd

from asking import NOT_TUPLES, PARTS, WRONG_PRODUCTS, WRONG_RATIOS, Asking, great, product

from etaparts.commands import is_command, is_deed, powers_text, ratio_text
from etaparts.errors import InvalidProduct, InvalidRatio

# Right commands of each word, deeds first.
DEEDS = ["kind k modulus 1", "kind k x", "kind k  modulus 1", "kind k \n", "kind k modulus 1\nparts all\n", "kind k a b  c ",
         "kind k # only a remark", "kind k  ", "product p 1", "product p 1:-6,5:5", "product p 0:0", "product p 9999:-99",
         "product p 5:5,1:1", "product p 1:1,1:1", "product p 1:0", "product p " + ",".join(["1:1"] * 12), "count p k", "times q p p",
         "times q p r", "power q p 2", "power q p -2", "power q p 0", "power q p 99", "power q p -99", "at q p 0", "at q p 9999", "at q p 60",
         "sum s", "term s 1 p", "term s -1/2 p", "term s 0 p", "term s 99/9998 p", "term s -99/2 p", "term s 1/9999 p", "copy q p",
         "drop p", "sum s1234567", "sum a", "sum kind", "sum a1", "copy sum sum", "sum z9"]
QUESTIONS = ["undo", "redo", "names", "show p", "show names", "row k 0", "row k 9999", "numbers p 50", "powers k 5", "alike k k",
             "alike a b", "level p", "nought s 4", "nought s 0", "divides p 5 4 5", "divides p 0 0 0", "same p p", "same a b"]
WRONG = ["", " ", "\n", "other", "Kind k x", "KIND k x", "kinds k x", "kind", "kind ", "kind k", "kind k ", "kind  k x", "kind K x", "kind 1 x",
         " kind k x", "kind\nk x", "kind k\nx", "kind k\tx", "kind 1k modulus 1", "kind k_ modulus 1", "kind abcdefghi modulus 1",
         "product", "product p", "product p ", "product p  1", "product p 1 ", "product p 1:", "product p :1", "product p 1:-0", "product p 1:+1",
         "product p 01:1", "product p 1:01", "product p 1:-01", "product p 1:100", "product p 1:-100", "product p 10000:1", "product p 1:1,",
         "product p ,1:1", "product p 1:1,,2:1", "product p 1:1, 2:1", "product p 1:1 2:1", "product p -1:1", "product p 1:1:1", "product p 0",
         "product p 2", "product p 1,1", "product p 1,1:1", "product p a:1", "product p 1:a", "product p (1:1)", "product p 1:1;2:1",
         "product p " + ",".join(["1:1"] * 13), "product p 1:1\n", "product P 1", "product p 1 1",
         "count p", "count p k k", "count  p k", "count p  k", "count p k ", "count p K", "count p 1", "count",
         "times q p", "times q p p p", "times q p 2", "times q", "power q p", "power q p p", "power q p 100", "power q p -100", "power q p 01",
         "power q p -0", "power q p +1", "power q p 1/2", "power q p --1", "power q p -", "power q 2 p", "power q p 2 ", "at q p -1", "at q p 10000",
         "at q p 00", "at q p 01", "at q p", "at q p d", "sum", "sum ", "sum S", "sum s t", "sum s ", "sum 1s", "sum -", "sum abcdefghi", "sum s\n",
         "sum s_", "sum s.", "term s 2/4 p", "term s 1/1 p", "term s 1/0 p", "term s 0/2 p", "term s 0/1 p", "term s -0 p", "term s -0/3 p",
         "term s 1/-2 p", "term s 1/02 p", "term s 01/2 p", "term s 1/10000 p", "term s 100 p", "term s -100/3 p", "term s 1/ p", "term s /2 p",
         "term s 1/2/3 p", "term s 1.5 p", "term s p 1", "term s 1", "term s p", "term 1 s p", "term s 1 p p", "term s 1  p", "term s (1,2) p",
         "term s 9/3 p", "copy q", "copy q p p", "copy", "drop", "drop p p", "drop  p", "drop P", "drop p ", "drop\np", "undo ", " undo", "undo 1",
         "undo p", "Undo", "undo\n", "redo ", "redo 1", "names ", "names p", "names\n", "show", "show ", "show P", "show p p", "show p ", "row k",
         "row k -1", "row k 10000", "row k 05", "row k a", "row 5 k", "row k 5 5", "row k  5", "numbers p", "numbers p x", "numbers 5 p",
         "numbers p 5\n", "powers k", "powers k -5", "alike k", "alike k k k", "alike k 1", "level", "level p 1", "level p ", "nought s",
         "nought s -4", "nought 4 s", "nought s 4 4", "divides p 5 4", "divides p 5 4 5 5", "divides p 5 4 -5", "divides p 5 4 x", "divides 5 4 5 p",
         "divides p 5  4 5", "same p", "same p p p", "same p 1", "do p", "lines", "twin", "kind:k x", "kind k", "product p 1:1.0", "undo,redo"]


class TestCommands(Asking):
    def test_of_any_value(self):
        self.only_for(is_command, DEEDS + QUESTIONS, WRONG + [True, None, 0, 1, b"undo", ["undo"], ("undo",), {}, {"undo"}, object()])
        self.only_for(is_deed, DEEDS, QUESTIONS + WRONG + [True, None, 0, 1, b"sum s", ["sum s"], ("sum s",), {}, object()])

    def test_words_of_both_tables(self):
        self.assertEqual(sorted({line.split(" ")[0] for line in DEEDS}),
                         ["at", "copy", "count", "drop", "kind", "power", "product", "sum", "term", "times"])
        self.assertEqual(sorted({line.split(" ")[0] for line in QUESTIONS}),
                         ["alike", "divides", "level", "names", "nought", "numbers", "powers", "redo", "row", "same", "show", "undo"])

    def test_names(self):
        for name in ("a", "z", "a1", "z0", "abcdefgh", "a1234567", "kind", "undo"):
            self.yes(is_command("drop " + name))
        for name in ("", "A", "1", "1a", "a_", "a-", "abcdefghi", "a12345678", "aB", "a ", " a", "-", "a.b"):
            self.no(is_command("drop " + name))

    def test_numbers(self):
        for number in range(0, 10000, 37):
            self.yes(is_command(f"row k {number}"))
            self.no(is_command(f"row k 0{number}"))
        for number in range(-99, 100):
            self.yes(is_command(f"power q p {number}"))
            self.no(is_command(f"power q p +{number}"))
            for under in range(2, 25):
                self.same(is_command(f"term s {number}/{under} p"), gcd(number, under) == 1)
        for number in (100, -100, 1000, 99999):
            self.no(is_command(f"power q p {number}"))
            self.no(is_command(f"term s {number} p"))

    def test_texts(self):
        for text in ("a", " ", "  ", "\n", "modulus 1\n", " modulus 1 ", "#", "undo", "a" * 15000, "modulus 1\nparts all\nmost 2 all\n"):
            self.yes(is_command("kind k " + text))
            self.yes(is_deed("kind k " + text))
        self.no(is_command("kind k "))
        self.no(is_command("kind  k"))


class TestTexts(Asking):
    def test_powers(self):
        for one, text in ((PARTS, "1:-1"), (product(), "1"), (product((1, -6), (5, 5)), "1:-6,5:5"), (product((60, 60)), "60:60"),
                          (product(*[(step, -60) for step in range(1, 13)]), ",".join(f"{step}:-60" for step in range(1, 13)))):
            self.same(powers_text(one), text)
            self.yes(is_deed("product p " + text))

    def test_ratios(self):
        for ratio, text in (((0, 1), "0"), ((5, 1), "5"), ((-5, 1), "-5"), ((1, 2), "1/2"), ((-1, 24), "-1/24"), ((99, 100), "99/100"),
                            ((10 ** 29, 3), str(10 ** 29) + "/3"), ((-7, 10 ** 29), "-7/" + str(10 ** 29)), (great(19), "1" + "0" * 380)):
            self.same(ratio_text(ratio), text)

    def test_wrong_values(self):
        self.refused(InvalidProduct, WRONG_PRODUCTS, powers_text)
        self.refused(InvalidRatio, WRONG_RATIOS, ratio_text)
        self.refused(InvalidRatio, NOT_TUPLES, ratio_text)


if __name__ == "__main__":
    unittest.main()
