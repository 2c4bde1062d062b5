import unittest

from asking import NOT_TUPLES, PARTS, Asking, product, squares
from test_judge import TRUE

from etaparts.errors import BadRecord, InvalidClaim, InvalidText
from etaparts.judge import claim_words, is_claim
from etaparts.records import check_of, parse_record, record_text, tree_text

NOT_TREES = [True, False, None, "", "abcdefghijklm", "A", "a1", "a b", "1", "a\n", "_", [], [1], {}, {1: 1}, {1}, b"a", object(),
             10 ** 30, -10 ** 30, (True,), (1, (None,)), ("A",), ((1, [2]),), (1,) * 2001, ((), (1,) * 2001)]
NOT_TEXTS = [True, False, None, 0, 1, b"", b"a", [], ["a"], (), ("a",), {}, {1}, object()]


def nested(depth):
    """A tuple that is so deep."""
    value = ()
    for _ in range(depth - 1):
        value = (value,)
    return value


def plain_check(text):
    check = 0
    for sign in text:
        check = (check * 31 + ord(sign)) % 9973
    return check


def record_with(lines):
    """The lines, with the last line that is right for them."""
    text = "".join(line + "\n" for line in lines)
    return text + "end {} {}\n".format(len(lines), plain_check(text))


class TestTreeTexts(Asking):
    def test_known(self):
        for value, text in ((0, "0"), (-3, "-3"), (10 ** 30 - 1, "9" * 30), (1 - 10 ** 30, "-" + "9" * 30), ("a", "a"), ("z", "z"), ("zzyzx", "zzyzx"), ((), "()"),
                            ("abcdefghijkl", "abcdefghijkl"), (("sum", (-3, ())), "(sum (-3 ()))"), ((1,), "(1)"), (((),), "(())"),
                            ((1, -2, "c"), "(1 -2 c)"), (PARTS, "(product ((1 -1)))"), (product(), "(product ())"),
                            (squares(1, 2), "(squares (1 2))"), (((), (), (1, (2,))), "(() () (1 (2)))")):
            self.same(tree_text(value), text)

    def test_depths_and_lengths(self):
        self.same(tree_text(nested(12)), "(" * 12 + ")" * 12)
        self.same(tree_text((1,) * 2000), "(" + " ".join(["1"] * 2000) + ")")
        self.told(InvalidClaim, {"value": nested(13)}, tree_text, nested(13))
        self.told(InvalidClaim, {"value": nested(60)}, tree_text, nested(60))

    def test_wrong_values(self):
        self.refused(InvalidClaim, NOT_TREES, tree_text)


class TestChecks(Asking):
    def test_against_the_words(self):
        for text in ("", "\n", "a", "ab", "ba", "etaparts ways\n5\n5\n", "~" * 5000, "the lines\nthat are the text\n", " "):
            self.same(check_of(text), plain_check(text))

    def test_known(self):
        self.same([check_of("ab"), check_of(""), check_of("a"), check_of("\n"), check_of("abc")], [3105, 0, 97, 10, 3105 * 31 % 9973 + 99])

    def test_wrong_values(self):
        self.refused(InvalidText, NOT_TEXTS, check_of)


class TestRecords(Asking):
    def test_known(self):
        self.same(record_text(("ways", 5, 5)), record_with(["etaparts ways", "5", "5"]))
        self.same(record_text(("ways", 5, 5)), "etaparts ways\n5\n5\nend 3 {}\n".format(plain_check("etaparts ways\n5\n5\n")))
        self.same(record_text(TRUE["dividing"]),
                  record_with(["etaparts dividing", "(product ((1 -1)))", "5", "4", "5", "5", "1", "5"]))
        self.same(record_text(("same", "a", (), -1)), record_with(["etaparts same", "a", "()", "-1"]))

    def test_read_back(self):
        claims = list(TRUE.values()) + [(word,) + (part,) * many for word, many in claim_words()
                                        for part in (0, -7, 10 ** 30 - 1, "abcdefghijkl", (), nested(12), (1,) * 500, ("a", (1, ())))]
        for claim in claims:
            text = record_text(claim)
            self.same(text, record_with(["etaparts " + claim[0]] + [tree_text(part) for part in claim[1:]]))
            self.same(parse_record(text), claim)

    def test_of_twenty_thousand_signs(self):
        # Of two tuples of ones and words the record comes to each length.
        found = []
        for many in range(60):
            claim = ("ways", ("a" * 12,) * 1400 + ("b" * 12,) * 50, ("c" * 6,) * 150 + ("d",) * many)
            lines = ["etaparts ways", tree_text(claim[1]), tree_text(claim[2])]
            text = record_with(lines)
            if len(text) <= 20000:
                self.same(record_text(claim), text)
                self.same(parse_record(text), claim)
            else:
                self.too_many("signs", 20000, record_text, claim)
            found.append(len(text))
        self.assertTrue(min(found) <= 20000 < max(found), found)
        # Just 20,000 signs, and one more.
        for more in (0, 1):
            claim = self.claim_of(20000 + more)
            if more:
                self.too_many("signs", 20000, record_text, claim)
            else:
                self.assertEqual(len(record_text(claim)), 20000)
                self.same(parse_record(record_text(claim)), claim)

    def claim_of(self, length):
        for size in range(1, 13):
            for many in range(1, 40):
                claim = ("ways", ("a" * 12,) * 1500, ("b" * size,) + ("c",) * many)
                text = record_with(["etaparts ways", tree_text(claim[1]), tree_text(claim[2])])
                if len(text) <= length:
                    # The rest is put into further words of twelve letters.
                    claim = ("ways", ("a" * 12,) * (1500 + (length - len(text)) // 13), claim[2])
                    text = record_with(["etaparts ways", tree_text(claim[1]), tree_text(claim[2])])
                if len(text) == length:
                    return claim
        raise AssertionError("no claim has a record of this length")

    def test_wrong_values(self):
        wrong = NOT_TUPLES + [(), ("ways",), ("ways", 1), ("ways", 1, 1, 1), ("other", 1, 1), ["ways", 1, 1], ("ways", True, 1),
                              ("ways", 1, [1]), ("ways", 1, nested(13)), ("ways", 10 ** 30, 1), ("ways", "A", 1), ("Ways", 1, 1)]
        self.refused(InvalidClaim, wrong, record_text)
        self.assertFalse(any(is_claim(value) for value in wrong))


class TestRead(Asking):
    def bad(self, position, text):
        self.told(BadRecord, {"position": position}, parse_record, text)

    def test_lines_left_out_put_in_ending_early(self):
        for word in TRUE:
            text = record_text(TRUE[word])
            lines = text.split("\n")[:-1]
            for at in range(len(lines)):
                # The text ends ahead of the line, inside it, and without its line feed.
                ahead = "".join(line + "\n" for line in lines[:at])
                self.bad(at, ahead)
                self.bad(at, ahead + lines[at])
                self.bad(at, ahead + lines[at][:1])
                self.bad(at, ahead + "\n")
                self.bad(at, ahead + lines[at] + " \n")
                self.bad(at, ahead + " " + lines[at] + "\n" + "".join(line + "\n" for line in lines[at + 1:]))
                self.bad(at, ahead + "what\tis\tthis\n")
            for more in ("\n", "x", "x\n", " ", "end 1 1\n", text, lines[-1] + "\n"):
                self.bad(len(lines), text + more)

    def test_first_lines(self):
        for line in ("", "etaparts", "etaparts ", "etaparts other", "Etaparts ways", "etaparts Ways", "etaparts  ways", " etaparts ways",
                     "etaparts ways ", "ways", "etaparts ways 5", "etaparts way", "etapart ways"):
            self.bad(0, record_with([line, "5", "5"]))
        self.bad(0, "")
        self.bad(0, "\n")
        self.bad(0, "etaparts ways")

    def test_lines_of_parts(self):
        for line in ("", " ", "05", "-0", "+5", "5 ", " 5", "5 5", "1" * 31, "-" + "1" * 31, "--5", "-", "5-", "5.0", "A", "aB", "a1", "1a",
                     "a" * 13, "a-b", "(", ")", "(()", "())", ")(", "( )", "(5 )", "( 5)", "(5  5)", "(5,5)", "(5)(5)", "() ()", "(5)5", "5(5)",
                     "(5(5))", "((5)5)", "(a(b))", "[5]", "(5\t5)", "5\t", "(05)", "(-0)", "(A)", "(" + "a" * 13 + ")", "((1 2)", "1_000",
                     "(" * 13 + ")" * 13, "(" * 100 + ")" * 100, "(" * 9000 + ")" * 9000, "(" + " ".join(["1"] * 2001) + ")", "'a'", "None"):
            self.bad(1, record_with(["etaparts ways", line, "5"]))
            self.bad(2, record_with(["etaparts ways", "5", line]))
        for line, value in (("0", 0), ("-5", -5), ("9" * 30, 10 ** 30 - 1), ("abcdefghijkl", "abcdefghijkl"), ("()", ()), ("(())", ((),)),
                            ("(" * 12 + ")" * 12, nested(12)), ("(1 (a -2) ())", (1, ("a", -2), ())), ("end", "end"), ("etaparts", "etaparts"),
                            ("(" + " ".join(["1"] * 2000) + ")", (1,) * 2000)):
            self.same(parse_record(record_with(["etaparts ways", line, "5"])), ("ways", value, 5))
            self.same(parse_record(record_with(["etaparts ways", "5", line])), ("ways", 5, value))

    def test_too_few_and_too_many_parts(self):
        self.bad(2, record_with(["etaparts ways", "5"]))
        self.bad(3, record_with(["etaparts ways", "5", "5", "5"]))
        self.bad(1, record_with(["etaparts ways"]))

    def test_last_lines(self):
        text = "etaparts ways\n5\n5\n"
        check = plain_check(text)
        self.same(parse_record(text + "end 3 {}\n".format(check)), ("ways", 5, 5))
        for line in ("end 3 {}".format(check + 1), "end 3 {}".format(check - 1), "end 3 {}".format(check + 9973), "end 4 {}".format(check),
                     "end 2 {}".format(check), "end 3 0{}".format(check), "end 03 {}".format(check), "end 3  {}".format(check),
                     "end 3", "end", "", "end 3 {} ".format(check), " end 3 {}".format(check), "End 3 {}".format(check), "end 3 -{}".format(check)):
            self.bad(3, text + line + "\n")
        self.bad(3, text + "end 3 {}".format(check))
        # The check of another claim.
        self.bad(3, "etaparts ways\n5\n6\nend 3 {}\n".format(check))

    def test_the_first_wrong_line_counts(self):
        self.bad(0, "x\ny\nz\n")
        self.bad(1, "etaparts ways\nX\nY\nZ\nmore\n")
        self.bad(2, "etaparts ways\n5\nX\nZ")

    def test_wrong_values(self):
        self.refused(InvalidText, NOT_TEXTS, parse_record)


if __name__ == "__main__":
    unittest.main()
