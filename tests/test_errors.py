import unittest

from neargrades import errors
from tests.samples import any_values, alike, spoil

PLAIN = ["BadScale", "BadImages", "BadTable", "BadPaper", "BadBlocks", "BadTurn", "BadDeed", "MixedScales",
         "MixedKinds", "TooMany", "NothingDone"]
NAMED = ["NotSame", "NotIdempotent", "NoStep", "OpenState", "BadName", "TwiceTold"]
ROWS = {"NotThrough": "members", "NotLike": "members", "BadKind": "path", "BadValue": "path", "BadSaying": "path",
        "Clash": "spots"}
MISSING = ["UnknownGrade", "UnknownName", "UnknownState", "NotTold"]


class ErrorsTest(unittest.TestCase):

    def make(self, word, *arguments):
        return getattr(errors, word)(*arguments)

    def test_bases(self):
        self.assertEqual(errors.NeargradesError.__bases__, (ValueError,))
        self.assertEqual(errors.NameMissing.__bases__, (LookupError,))
        for word in PLAIN + NAMED + list(ROWS) + ["NotKept", "BadText"]:
            self.assertEqual(getattr(errors, word).__bases__, (errors.NeargradesError,), word)
        for word in MISSING + ["NoState"]:
            self.assertEqual(getattr(errors, word).__bases__, (errors.NameMissing,), word)

    def test_there_are_no_others(self):
        found = [name for name, value in vars(errors).items() if isinstance(value, type)]
        told = PLAIN + NAMED + list(ROWS) + MISSING + ["NotKept", "BadText", "NoState", "NeargradesError", "NameMissing"]
        self.assertEqual(sorted(found), sorted(told))

    def test_plain_ones_have_no_attributes(self):
        for word in PLAIN:
            self.assertEqual(vars(self.make(word)), {}, word)
            with self.assertRaises(errors.NeargradesError):
                raise self.make(word)

    def test_names_are_kept_whatever_they_are(self):
        for word in NAMED + MISSING:
            for name in any_values() + ["x"]:
                error = self.make(word, name)
                self.assertTrue(alike(vars(error), {"name": name}), (word, name))

    def test_number_and_place(self):
        for value in any_values() + [5, (2, 3)]:
            self.assertTrue(alike(vars(errors.NoState(value)), {"number": value}))
            self.assertTrue(alike(vars(errors.BadText(value)), {"place": value}))

    def test_rows_are_tuples(self):
        for word, attribute in ROWS.items():
            for row in ((), ("a",), ("a", "b", "c"), (0, 1)):
                self.assertTrue(alike(vars(self.make(word, row)), {attribute: row}), word)
                self.assertTrue(alike(vars(self.make(word, list(row))), {attribute: row}), word)

    def test_not_kept(self):
        error = errors.NotKept("join", ["a", "b"])
        self.assertTrue(alike(vars(error), {"part": "join", "members": ("a", "b")}))
        self.assertTrue(alike(vars(errors.NotKept("none", ())), {"part": "none", "members": ()}))

    def test_arguments_have_their_names(self):
        self.assertEqual(errors.NotKept(part="one", members=(1,)).members, (1,))
        self.assertEqual(errors.UnknownGrade(name="x").name, "x")
        self.assertEqual(errors.NoState(number=3).number, 3)
        self.assertEqual(errors.BadText(place=3).place, 3)
        self.assertEqual(errors.BadKind(path=(1,)).path, (1,))
        self.assertEqual(errors.Clash(spots=()).spots, ())

    def test_nothing_that_was_passed_is_kept(self):
        for word in NAMED + MISSING + ["NoState", "BadText"]:
            value = [["a"], {"b": ["c"]}, (["d"],)]
            error = self.make(word, value)
            spoil(value)
            told = list(vars(error).values())[0]
            self.assertTrue(alike(told, [["a"], {"b": ["c"]}, (["d"],)]), word)
            self.assertNotIn("spoilt", repr(error.args))
        for word in ROWS:
            value = [["a"], {"b": []}]
            error = self.make(word, value)
            spoil(value)
            self.assertTrue(alike(list(vars(error).values())[0], (["a"], {"b": []})), word)

    def test_they_can_be_caught_by_their_bases(self):
        with self.assertRaises(ValueError):
            raise errors.BadText(0)
        with self.assertRaises(LookupError):
            raise errors.UnknownGrade("x")
        self.assertNotIsInstance(errors.UnknownGrade("x"), ValueError)


if __name__ == "__main__":
    unittest.main()
