import unittest

from asking import WRONG_KINDS, Asking, kind
from counting import all_kinds, many_kinds

from etaparts.errors import BadText, InvalidKind, InvalidText
from etaparts.kindtexts import kind_text, parse_kind

# In each text ^ stands ahead of the wrong place.
NO_ROWS = ["^", "   ^", "\n^", "\n \n  ^", "# modulus 1^", "#\n#modulus 1\n  # parts all\n^", "\n\n#^"]

WRONG_SIGNS = [
    "^Modulus 1", "modulus 1 ^- parts", "modulus ^-1", "modulus ^+1", "mod^Ulus 1", "modulus 1\nparts 0^,", "^_",
    "modulus 2\nparts 0^;1", "modulus 2\nparts ^*", "modulus 2\n\nparts all ^!", "modulus 2\nparts^\"all", "^~", "^@#",
    "modulus 1^.0", "modulus ^(1)", "modulus 1 # ~!\nparts ^ALL", "  ^'", "modulus 2 ^/ # /",
    # A wrong sign is told ahead of every wrong token, also of one that stands ahead of it.
    "modulo 2\nparts all^?", "^%modulus 99", "modulus 0\nparts ^&", "parts all all\nmost 7 all\n^=", "modulus^:",
    "modulus 3\nparts 0 0\nparts 1 # }\n^{",
]

WRONG_MODULUS = [
    "^mod 2", "^parts all", "^colours 2 all", "^most 1 all", "^modulus2", "^2", "^all", "\n \n  ^most 1 all\nmodulus 1",
    "# modulus 2\n^x", "modulus^", "modulus^\n", "modulus^\nparts all", "modulus  ^#3", "modulus   ^", "modulus   ^\n12",
    "modulus^# 3\nparts all", "modulus ^0", "modulus ^13", "modulus ^01", "modulus ^00", "modulus ^012", "modulus ^1a",
    "modulus ^x", "modulus ^all", "modulus ^modulus", "modulus ^100", "modulus ^" + "1" * 5000, "modulus ^0000000001",
    "modulus 3 ^3", "modulus 3 ^all", "modulus 3 ^parts all", "modulus 12 ^0 0", "modulus 12 ^modulus 12",
    "modulus ^\n3", "  modulus 3   ^x #",
]

WRONG_WORDS = [
    "modulus 3\n^modulus 3", "modulus 3\n^modulus", "modulus 3\n^part 0", "modulus 3\n^all", "modulus 3\n^0",
    "modulus 3\nparts all\n^color 2 all", "modulus 3\nparts all\n\n#\n ^mosts 2 all", "modulus 3\n^parts0", "modulus 3\n^x",
    "modulus 3\n^colours2 all",
]

WRONG_PARTS = [
    "parts^", "parts^\n", "parts  ^# all", "parts ^3", "parts ^03", "parts ^00", "parts ^01", "parts ^x", "parts ^parts",
    "parts ^3 3", "parts 0 ^00", "parts 0 ^3", "parts 0 1 ^0", "parts 0 1 ^1", "parts 2 1 0 ^2", "parts 0 ^all",
    "parts 0 1 2 ^all", "parts all ^0", "parts all ^all", "parts all ^x", "parts all ^parts 0", "parts 0 ^x 0",
    "parts 0 ^parts", "parts ^all0", "parts ^0all", "parts ^" + "9" * 5000, "parts 1 ^10", "parts 0   1 ^1 1",
]

# The word, colours or most, stands for W.
WRONG_COUNTS = [
    "W^", "W^\nparts all", "W  ^#", "W ^7 all", "W ^10 0", "W ^01 all", "W ^00 0", "W ^all", "W ^all 1", "W ^x 0", "W ^1x 0",
    "W ^99999999999999999999 all", "W 1^", "W 0^", "W 6  ^\nparts 0", "W 1 ^# all", "W 1 ^3", "W 1 ^7", "W 1 ^x", "W 1 ^02",
    "W 1 1 ^1", "W 1 2 0 ^2", "W 1 all ^1", "W 1 0 ^all", "W 1 all ^all", "W 0 ^3", "W 1 ^W", "W 3 ^3 3", "W ^w",
]


class TestWrongPlaces(Asking):
    def wrong(self, marked, ahead=""):
        text = ahead + marked
        self.assertEqual(text.count("^"), 1)
        with self.subTest(text=text[:60]):
            self.told(BadText, {"position": text.index("^")}, parse_kind, text.replace("^", ""))

    def test_no_rows_with_tokens(self):
        for text in NO_ROWS:
            self.wrong(text)

    def test_wrong_signs(self):
        for text in WRONG_SIGNS:
            self.wrong(text)

    def test_wrong_moduli(self):
        for text in WRONG_MODULUS:
            self.wrong(text)

    def test_wrong_words(self):
        for text in WRONG_WORDS:
            self.wrong(text)

    def test_wrong_parts(self):
        for text in WRONG_PARTS:
            self.wrong(text, "modulus 3\n")
            self.wrong(text, "# three\n\n  modulus   3 # !\nparts 0\n  \n")

    def test_wrong_colours_and_most(self):
        for text in WRONG_COUNTS:
            for word in ("colours", "most"):
                self.wrong(text.replace("W", word), "modulus 3\n")
                self.wrong(text.replace("W", word), "\n modulus 3\n\nparts all\nmost 1 all\ncolours 2 0 1 # ?\n  ")

    def test_the_first_wrong_token_is_told(self):
        self.wrong("modulus 3\nparts ^3\nparts 4")
        self.wrong("modulus 3\nparts 1\nparts 1 2 ^1\nmodulus 3")
        self.wrong("modulus ^13\nparts 1 1")
        self.wrong("modulus 3 ^3\nmodulus")
        self.wrong("modulus 3\ncolours ^7 3")
        self.wrong("modulus 3\nmost ^7\nparts")

    def test_rests_are_below_the_modulus(self):
        for modulus in range(1, 13):
            self.wrong(f"modulus {modulus}\nparts ^{modulus}")
            self.wrong(f"modulus {modulus}\nparts {modulus - 1} ^{modulus}")
            self.same(parse_kind(f"modulus {modulus}\nparts {modulus - 1}"),
                      kind(modulus, *[(0, 0)] * (modulus - 1), (1, 0)))

    def test_a_place_is_not_the_text_itself(self):
        for value in [None, True, False, 0, 1, b"modulus 1", ["modulus 1"], ("modulus 1",), {}, [], (), object()]:
            self.told(InvalidText, {"value": value}, parse_kind, value)


class TestParsed(Asking):
    def read(self, text, *rows):
        with self.subTest(text=text):
            self.same(parse_kind(text), kind(len(rows), *rows))

    def test_modulus_alone(self):
        for modulus in range(1, 13):
            self.read(f"modulus {modulus}", *[(0, 0)] * modulus)
        self.read("modulus 2\n", (0, 0), (0, 0))

    def test_blanks_and_remarks(self):
        for text in ("modulus 2\nparts 1\nmost 3 1", "  modulus   2  \n\n parts  1 \n   \nmost 3  1  \n\n",
                     "# \n#modulus 5\nmodulus 2#5\nparts 1# 0\n # parts 0 ?!\n  most 3 1 # # #\n#", "\n\nmodulus 2\nparts 1\nmost 3 1 #",
                     "modulus 2 # Modulus % 3\nparts 1 #\n#\nmost 3 1\n "):
            self.read(text, (0, 0), (1, 3))

    def test_parts(self):
        self.read("modulus 3\nparts all", (1, 0), (1, 0), (1, 0))
        self.read("modulus 3\nparts 0 1 2", (1, 0), (1, 0), (1, 0))
        self.read("modulus 3\nparts 2 0", (1, 0), (0, 0), (1, 0))
        self.read("modulus 3\nparts 2\nparts 0", (1, 0), (0, 0), (1, 0))
        self.read("modulus 12\nparts 11 10", *[(0, 0)] * 10, (1, 0), (1, 0))
        # Parts that come already stay as they are.
        self.read("modulus 2\nparts 0\nparts 0 1", (1, 0), (1, 0))
        self.read("modulus 2\ncolours 3 0\nparts all", (3, 0), (1, 0))
        self.read("modulus 2\nparts 0\nmost 2 0\nparts all", (1, 2), (1, 0))

    def test_colours(self):
        for colours in range(7):
            self.read(f"modulus 2\ncolours {colours} 1", (0, 0), (colours, 0))
            self.read(f"modulus 2\nparts all\ncolours {colours} 1 0", (colours, 0), (colours, 0))
            self.read(f"modulus 2\ncolours {colours} all", (colours, 0), (colours, 0))
        self.read("modulus 1\nparts all\nmost 2 all\ncolours 3 all", (3, 2))
        self.read("modulus 1\nparts all\nmost 2 all\ncolours 1 0", (1, 2))
        # Of 0 colours no bound is kept.
        self.read("modulus 1\nparts all\nmost 2 all\ncolours 0 all", (0, 0))
        self.read("modulus 1\nparts all\nmost 2 all\ncolours 0 all\ncolours 3 all", (3, 0))
        self.read("modulus 1\ncolours 5 0\nmost 2 0\ncolours 0 0\nparts 0", (1, 0))

    def test_most(self):
        for most in range(7):
            self.read(f"modulus 2\nparts 1\nmost {most} 1", (0, 0), (1, most))
            self.read(f"modulus 2\nparts 1\nmost {most} all", (0, 0), (1, most))
            self.read(f"modulus 2\ncolours 6 all\nmost {most} 1 0", (6, most), (6, most))
        self.read("modulus 1\nparts all\nmost 5 all\nmost 0 all", (1, 0))
        self.read("modulus 1\nparts all\nmost 5 all\nmost 6 all", (1, 6))
        # A bound for parts that do not come is none, also if they come later.
        self.read("modulus 1\nmost 5 all\nparts all", (1, 0))
        self.read("modulus 2\nmost 5 0 1", (0, 0), (0, 0))

    def test_rows_are_done_one_behind_the_other(self):
        self.read("modulus 3\nparts all\ncolours 2 0 1\nmost 4 1 2\ncolours 0 2\nparts 2\ncolours 6 0\nmost 0 1",
                  (6, 0), (2, 0), (1, 0))


class TestWritten(Asking):
    def test_texts(self):
        texts = {
            kind(1, (0, 0)): "modulus 1\n",
            kind(12, *[(0, 0)] * 12): "modulus 12\n",
            kind(1, (1, 0)): "modulus 1\nparts all\n",
            kind(1, (6, 6)): "modulus 1\nparts all\ncolours 6 all\nmost 6 all\n",
            kind(1, (1, 1)): "modulus 1\nparts all\nmost 1 all\n",
            kind(2, (0, 0), (2, 0)): "modulus 2\nparts 1\ncolours 2 1\n",
            kind(2, (2, 1), (2, 0)): "modulus 2\nparts all\ncolours 2 all\nmost 1 0\n",
            kind(3, (3, 2), (2, 3), (3, 1)): "modulus 3\nparts all\ncolours 2 1\ncolours 3 0 2\nmost 1 2\nmost 2 0\nmost 3 1\n",
            kind(3, (1, 2), (0, 0), (1, 2)): "modulus 3\nparts 0 2\nmost 2 0 2\n",
            kind(12, *[(1, 0)] * 2, *[(0, 0)] * 8, *[(4, 5)] * 2): "modulus 12\nparts 0 1 10 11\ncolours 4 10 11\nmost 5 10 11\n",
        }
        for one, text in texts.items():
            self.same(kind_text(one), text)
            self.same(parse_kind(text), one)

    def test_read_as_the_kind(self):
        for one in all_kinds(1) + all_kinds(2) + many_kinds(20):
            text = kind_text(one)
            self.same(parse_kind(text), one)
            self.assertTrue(text.startswith("modulus ") and text.endswith("\n"))
            self.same(parse_kind(text[:-1]), one)

    def test_rows_of_the_text(self):
        for one in many_kinds(10):
            modulus, rows = one[1:]
            lines = [["modulus", str(modulus)]]
            wanted = [("parts", lambda row: row[0] > 0)]
            wanted += [(f"colours {n}", lambda row, n=n: row[0] == n) for n in range(2, 7)]
            wanted += [(f"most {n}", lambda row, n=n: row[1] == n) for n in range(1, 7)]
            for words, is_so in wanted:
                rests = [str(rest) for rest in range(modulus) if is_so(rows[rest])]
                if rests:
                    lines.append(words.split() + (["all"] if len(rests) == modulus else rests))
            self.same(kind_text(one), "".join(" ".join(line) + "\n" for line in lines))

    def test_wrong_kinds(self):
        self.refused(InvalidKind, WRONG_KINDS, kind_text)


if __name__ == "__main__":
    unittest.main()
