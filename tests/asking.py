"""What the test files share: how errors are asked for, and values that are wrong everywhere."""

import unittest

from etaparts.ratios import times

NOT_INTEGERS = [True, False, None, "", "1", b"1", [], [1], (), (1,), {}, {1: 1}, {1}, object()]
NOT_TUPLES = [True, False, None, 0, 1, -1, "", "1", b"1", [], [1], {}, {1: 1}, {1}, object()]


def beyond(low, high):
    """Values that are no integers from low to high."""
    return NOT_INTEGERS + [low - 1, high + 1, low - 10 ** 29, high + 10 ** 29]


def product(*powers):
    return ("product", tuple(powers))


def kind(modulus, *rows):
    return ("kind", modulus, tuple(rows))


PARTS = product((1, -1))
EULER = product((1, 1))
TWELVE_STEPS = product(*[(step, 60 if step % 2 else -60) for step in range(49, 61)])

WRONG_PRODUCTS = NOT_TUPLES + [
    (), ("product",), ("product", (), ()), ["product", ()], ("product", []), ("product", [(1, 1)]),
    ("product", ([1, 1],)), ("product", ((1,),)), ("product", ((1, 1, 1),)), ("product", (1, 1)), ("product", ((),)),
    ("product", "11"), ("product", None), ("product", {}), ("product", True), ("product", (None,)), ("product", ("11",)),
    ("Product", ()), ("products", ()), ("sum", ()), ("kind", ()), (b"product", ()), (None, ()), (1, ()), ((), "product"),
    product((0, 1)), product((-1, 1)), product((61, 1)), product((1, 0)), product((1, 61)), product((1, -61)),
    product((True, 1)), product((1, True)), product((1, False)), product(("1", 1)), product((1, "1")), product((None, 1)),
    product((1, None)), product(((1,), 1)), product((1, [1])), product((1, 1), (1, 1)), product((1, 1), (1, 2)),
    product((2, 1), (1, 1)), product((1, 1), (3, 1), (2, 1)), product((1, 1), (2, True)), product((1, 1), (2, 0)),
    product(*[(step, 1) for step in range(1, 14)]), "product", ("product", ((1, -1),), None),
]

WRONG_ROWS = [True, None, 0, 1, "", "11", b"11", {}, {1: 1}, {1}, object(), [True], [False], [1, True], (1, False), [None],
              ["1"], [[1]], [(1,)], [1, 2, "3"], ([],), [1, b"1"], [0] * 3001, (0,) * 3001, [1] * 3100]

WRONG_KINDS = NOT_TUPLES + [
    (), ("kind",), ("kind", 1), ("kind", 1, ((1, 0),), ()), ["kind", 1, ((1, 0),)], ("kind", 1, [(1, 0)]),
    ("kind", 1, ([1, 0],)), ("kind", 1, ((1,),)), ("kind", 1, ((1, 0, 0),)), ("kind", 1, (1,)), ("kind", 1, (1, 0)),
    ("kinds", 1, ((1, 0),)), ("Kind", 1, ((1, 0),)), (b"kind", 1, ((1, 0),)), (None, 1, ((1, 0),)), (1, 1, ((1, 0),)),
    kind(0), kind(-1), kind(1), kind(2, (1, 0)), kind(1, (1, 0), (1, 0)), kind(True, (1, 0)), kind("1", (1, 0)),
    kind(None, (1, 0)), kind(13, *[(1, 0)] * 13), kind(12, *[(1, 0)] * 11), kind(12, *[(1, 0)] * 13),
    kind(1, (7, 0)), kind(1, (-1, 0)), kind(1, (1, 7)), kind(1, (1, -1)), kind(1, (0, 1)), kind(1, (0, 6)),
    kind(1, (True, 0)), kind(1, (1, True)), kind(1, (1, False)), kind(1, (False, 0)), kind(1, (0, False)),
    kind(1, ("1", 0)), kind(1, (1, "0")), kind(1, (None, 0)), kind(1, (1, None)), kind(2, (1, 0), (0, 1)),
    kind(3, (1, 0), (1, 0), (1, True)), ("kind", 1, "10"), ("kind", 1, None), ("kind", 0, ()), "kind",
    ("kind", 2, {0: (1, 0), 1: (1, 0)}),
]

WRONG_RATIOS = NOT_TUPLES + [
    (), (1,), (1, 1, 1), [1, 1], (1, 0), (0, 0), (1, -1), (-1, -1), (0, 2), (0, -1), (2, 2), (2, 4), (-3, 6), (9, 6),
    (True, 1), (False, 1), (1, True), (2, True), (True, True), ("1", 1), (1, "1"), (None, 1), (1, None), ((1,), 1),
    (1, (1,)), ([1], 1), (1, [1]), "11", {1: 1, 2: 1}, (10 ** 20, 10 ** 10), (b"1", 1),
]

WRONG_FORMS = NOT_TUPLES + [
    (), ("squares",), ("squares", (1,), ()), ["squares", (1,)], ("squares", [1]), ("squares", ()), ("squares", 1),
    ("squares", (0,)), ("squares", (-1,)), ("squares", (13,)), ("squares", (2, 1)), ("squares", (1, 3, 2)),
    ("squares", (True,)), ("squares", (1, True)), ("squares", (False, 1)), ("squares", ("1",)), ("squares", (None,)),
    ("squares", ((1,),)), ("squares", (1, (True,))), ("squares", "11"), ("squares", None), ("squares", {1: 1}),
    ("squares", (1,) * 9), ("squares", (1, 1, 2, 0)), ("squares", (1, 10 ** 29)), ("Squares", (1,)), ("square", (1,)),
    (b"squares", (1,)), (None, (1,)), (1, (1,)), ((1,), "squares"), ("product", ((1, -1),)), "squares",
]
WRONG_LEVELS = beyond(1, 120)

# Neither divisor sums nor products.
WRONG_DIVISORS = NOT_TUPLES + [
    (), ("divisors",), ("divisors", "two"), ("divisors", "two", 2, 2), ["divisors", "two", 2], ("divisors", ["two"], 2),
    ("divisors", "two", 1), ("divisors", "two", 0), ("divisors", "two", 61), ("divisors", "third", 41),
    ("divisors", "quarter", 31), ("divisors", "four", 61), ("divisors", "six", 61), ("divisors", "four", 0),
    ("divisors", "six", -1), ("divisors", "third", 0), ("divisors", "quarter", -1), ("divisors", "five", 2),
    ("divisors", "Two", 2), ("divisors", "", 2), ("divisors", None, 2), ("divisors", 2, 2), ("divisors", b"two", 2),
    ("divisors", ("two",), 2), ("divisors", "four", True), ("divisors", "six", "1"), ("divisors", "six", None),
    ("divisors", "six", (1,)), ("divisors", "six", [1]), ("divisor", "two", 2), ("Divisors", "two", 2), (None, "two", 2),
    (b"divisors", "two", 2), ("product", "two", 2), ("two", "divisors", 2), "divisors", ("divisors", 2, "two"),
]
WRONG_THINGS = WRONG_PRODUCTS + WRONG_DIVISORS + [("squares", (1,)), ("sum", ())]
WRONG_SUMS = NOT_TUPLES + [
    (), ("sum",), ("sum", (), ()), ["sum", ()], ("sum", []), ("sum", None), ("sum", 1), ("sum", "12"), ("sum", {}),
    ("Sum", ()), ("sums", ()), (b"sum", ()), (None, ()), ("product", ((1, -1),)), ("divisors", "two", 2), "sum",
    ("sum", ([(1, 1), PARTS],)), ("sum", (((1, 1),),)), ("sum", (((1, 1), PARTS, PARTS),)), ("sum", ((PARTS, (1, 1)),)),
    ("sum", ((1, PARTS),)), ("sum", (None,)), ("sum", ((0, PARTS),)), ("sum", (((0, 1), PARTS),)), ("sum", PARTS),
    ("sum", (((2, 2), PARTS),)), ("sum", (((True, 1), PARTS),)), ("sum", (((1, True), PARTS),)), ("sum", ((None, PARTS),)),
    ("sum", (([1, 1], PARTS),)), ("sum", (((1, 0), PARTS),)), ("sum", (((1, -1), PARTS),)), ("sum", (((1, 1), ()),)),
    ("sum", (((1, 1), EULER), ((1, 1), EULER))), ("sum", (((1, 1), EULER), ((2, 1), EULER))),
    ("sum", (((2, 1), EULER), ((1, 1), PARTS))), ("sum", (((1, 1), EULER), ((1, 1), PARTS))),
    ("sum", (((1, 3), EULER), ((1, 2), PARTS))), ("sum", (((1, 1), EULER), ((-1, 1), PARTS))),
    ("sum", (((1, 1), PARTS), ((1, 1), ("divisors", "two", 2)))),
    ("sum", tuple([((1, 1), ("product", ((1, power),))) for power in range(1, 10)])),
] + [("sum", (((1, 1), value),)) for value in WRONG_DIVISORS[-30:]]


def pair(fraction):
    return (fraction.numerator, fraction.denominator)


def great(often):
    """10 ** (20 * often), made by the package itself."""
    found = (1, 1)
    for _ in range(often):
        found = times(found, (10 ** 20, 1))
    return found


def squares(*weights):
    return ("squares", tuple(weights))


class Asking(unittest.TestCase):
    def told(self, error, attributes, call, *values, **named):
        """The call raises an error of just this class, with just these attributes."""
        with self.assertRaises(error) as caught:
            call(*values, **named)
        self.assertIs(type(caught.exception), error)
        found = vars(caught.exception)
        self.assertEqual(found, attributes)
        for name in attributes:
            self.assertIs(type(found[name]), type(attributes[name]))

    def refused(self, error, wrong, call):
        """The call of each wrong value raises the error with this value."""
        for value in wrong:
            with self.subTest(value=value):
                self.told(error, {"value": value}, call, value)

    def too_many(self, what, limit, call, *values):
        from etaparts.errors import TooMany
        self.told(TooMany, {"what": what, "limit": limit}, call, *values)

    def same(self, found, wanted):
        """Equal, and of the same kinds throughout: a list is no tuple, True is not 1."""
        self.assertEqual(repr(found), repr(wanted))

    def yes(self, found):
        self.assertIs(found, True)

    def no(self, found):
        self.assertIs(found, False)

    def only_for(self, call, right, wrong):
        """The call tells True of the right values alone."""
        for value in right:
            with self.subTest(value=value):
                self.yes(call(value))
        for value in wrong:
            with self.subTest(value=value):
                self.no(call(value))

    def new_each_time(self, call, *values):
        """A list that is told is a new one: what is done to it changes no later answer."""
        first = call(*values)
        self.assertIs(type(first), list)
        wanted = repr(first)
        self.assertIsNot(call(*values), first)
        first.append("more")
        first[0] = "other"
        self.assertEqual(repr(call(*values)), wanted)
