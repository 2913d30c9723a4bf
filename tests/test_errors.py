"""Point 5: the classes of errors."""

import unittest

from suresieves import errors
from tests.values import STRANGE

GIVEN = """InvalidGrant InvalidNumber InvalidName InvalidKnown InvalidState InvalidRow InvalidTranslation
InvalidHost InvalidForm InvalidStep InvalidKept InvalidSource NoSuchTable TooMany InvalidSettings
InvalidSure InvalidDeed""".split()
INDEX = """InvalidSieve InvalidPacket InvalidTables InvalidRun InvalidTable InvalidMarks InvalidWords
InvalidListing InvalidSteps NotLaid InvalidChain InvalidComing InvalidDeeds""".split()
BARE = "NotTaken NotThere NotServed NoBlock".split()
ALL = GIVEN + INDEX + BARE + ["InvalidWriting", "InvalidSnapshot"]


class TestErrors(unittest.TestCase):
    def test_base(self):
        self.assertEqual(errors.SieveError.__bases__, (ValueError,))
        self.assertEqual(vars(errors.SieveError()), {})

    def test_each_stands_under_the_base_alone(self):
        for name in ALL:
            with self.subTest(name=name):
                self.assertEqual(getattr(errors, name).__bases__, (errors.SieveError,))

    def test_these_are_all(self):
        found = [name for name, value in vars(errors).items() if isinstance(value, type)]
        self.assertEqual(sorted(found), sorted(ALL + ["SieveError"]))

    def check_one_attribute(self, names, attribute):
        for name in names:
            kind = getattr(errors, name)
            for value in STRANGE + (0, -5, 10 ** 40, (1, (2,))):
                with self.subTest(name=name, value=value):
                    self.assertIs(getattr(kind(value), attribute), value)
                    self.assertIs(getattr(kind(**{attribute: value}), attribute), value)
                    self.assertEqual(list(vars(kind(value))), [attribute])

    def test_given(self):
        self.check_one_attribute(GIVEN, "given")

    def test_index(self):
        self.check_one_attribute(INDEX, "index")

    def test_line(self):
        self.check_one_attribute(["InvalidSnapshot"], "line")

    def test_line_and_place(self):
        for line, place in ((0, 13), (None, None), ("x", [3])):
            for error in (
                errors.InvalidWriting(line, place),
                errors.InvalidWriting(line=line, place=place),
                errors.InvalidWriting(place=place, line=line),
            ):
                self.assertEqual(vars(error), {"line": line, "place": place})

    def test_bare(self):
        for name in BARE:
            self.assertEqual(vars(getattr(errors, name)()), {})

    def test_raised_and_caught(self):
        for name in ALL:
            kind = getattr(errors, name)
            made = kind() if name in BARE else kind(1, 2) if name == "InvalidWriting" else kind(1)
            with self.assertRaises(errors.SieveError):
                raise made
            with self.assertRaises(ValueError):
                raise made
