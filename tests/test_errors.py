import unittest

from asking import Asking

import etaparts.errors as errors

BY_VALUE = """InvalidProduct InvalidLevel InvalidSum InvalidKind InvalidStep InvalidRest InvalidDivisor InvalidMany
InvalidRow InvalidNumber InvalidText InvalidPrime InvalidClaim InvalidClearing InvalidCommand InvalidDivisors InvalidEnd
InvalidExponent InvalidFold InvalidForm InvalidMost InvalidOrders InvalidPart InvalidPartition InvalidParts InvalidPlace
InvalidPosition InvalidProducts InvalidRatio InvalidSection InvalidTarget InvalidTerms InvalidThing InvalidThings
InvalidTotal InvalidWeight InvalidWord""".split()
BY_POSITION = "BadRecord BadText InvalidDeeds".split()
PLAIN_STATES = """NotFitting DividedByNought NoProduct NotCarried NotOne NothingToRedo NothingToUndo UnlikeKinds""".split()

# Each error: its base, the names of its attributes and parameters.
ERRORS = {"SeriesError": (ValueError, None), "MissingError": (LookupError, None), "StateError": (RuntimeError, None),
          "LimitError": (ArithmeticError, None)}
ERRORS.update({name: ("SeriesError", ["value"]) for name in BY_VALUE})
ERRORS.update({name: ("SeriesError", ["position"]) for name in BY_POSITION})
ERRORS.update({name: ("StateError", []) for name in PLAIN_STATES})
ERRORS.update({"UnknownName": ("MissingError", ["value"]), "CommandFailed": ("StateError", ["position"]),
               "NameTaken": ("StateError", ["name"]), "NotMultiple": ("StateError", ["prime"]),
               "TooMany": ("LimitError", ["what", "limit"])})

ANY_VALUES = [None, True, 0, -1, 10 ** 29, "", "text", b"bytes", (), (1, (2, [3])), [], [None], {}, {"a": 1}, {1},
              object(), ValueError]


class TestErrors(Asking):
    def test_all_are_there(self):
        self.assertEqual(len(BY_VALUE) + len(BY_POSITION), 40)
        found = [name for name, value in vars(errors).items() if isinstance(value, type)]
        self.assertEqual(sorted(found), sorted(ERRORS))

    def test_bases(self):
        for name, (base, _) in ERRORS.items():
            with self.subTest(name=name):
                error = getattr(errors, name)
                wanted = getattr(errors, base) if isinstance(base, str) else base
                self.assertEqual(error.__bases__, (wanted,))
                self.assertEqual(error.__name__, name)
                self.assertEqual(error.__module__, "etaparts.errors")

    def test_attributes(self):
        for name, (_, words) in ERRORS.items():
            for value in ANY_VALUES:
                with self.subTest(name=name, value=value):
                    self.made(getattr(errors, name), words or [], value)

    def made(self, error, words, value):
        values = [value] + ["second"] * (len(words) - 1) if words else []
        by_position = error(*values)
        by_name = error(**dict(zip(words, values)))
        self.assertEqual(vars(by_position), dict(zip(words, values)))
        self.assertEqual(vars(by_name), dict(zip(words, values)))
        for word, worth in zip(words, values):
            self.assertIs(type(getattr(by_position, word)), type(worth))

    def test_too_few_values(self):
        for name, (_, words) in ERRORS.items():
            if words:
                with self.subTest(name=name):
                    self.assertRaises(TypeError, getattr(errors, name))

    def test_they_are_raised_and_caught_by_their_bases(self):
        for name, base in (("InvalidProduct", ValueError), ("UnknownName", LookupError), ("NameTaken", RuntimeError)):
            with self.assertRaises(base) as caught:
                raise getattr(errors, name)("worth")
            self.assertIs(type(caught.exception), getattr(errors, name))
        with self.assertRaises(ArithmeticError) as caught:
            raise errors.TooMany("places", 3000)
        self.assertEqual((caught.exception.what, caught.exception.limit), ("places", 3000))


if __name__ == "__main__":
    unittest.main()
