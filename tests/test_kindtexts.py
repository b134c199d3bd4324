import random
import unittest

from neargrades.errors import BadKind, BadName, BadText, BadValue, UnknownGrade, UnknownName, UnknownState
from neargrades.kindtexts import read_kind, read_value, write_kind, write_value
from neargrades.scales import CostScale, LevelScale, PairScale, SetScale
from neargrades.spaces import Space
from tests import forms
from tests.kindsamples import empty, hues, kinds, random_data, scales, told
from tests.samples import Checks, caught, one_grade

COST = CostScale(3)
NAMES = ("names", hues(COST))
NEXT = ("next",)
STATES = ["t", "s2", "abcdefghijkl"]
SIGNS = "abn ,()@{}[]*0/A\n~_left"


def spaces(scale):
    return {"hue": hues(scale), "none0": empty(scale), "abcdefghijkl": Space(scale, ["x"], [[scale.nearest]])}


def spoilt_texts(text, chance, count):
    """Texts that end too early, go on too long, or have other signs."""
    for _ in range(count):
        at = chance.randrange(len(text) + 1)
        way = chance.randrange(4)
        sign = chance.choice(SIGNS)
        if way == 0:
            yield text[:at]
        elif way == 1:
            yield text[:at] + sign + text[at:]
        elif way == 2:
            yield text[:at] + text[at + 1:]
        else:
            yield text[:at] + sign + text[at + 1:]


class KindTextsTest(Checks, unittest.TestCase):

    def test_example(self):
        kind = ("both", ("row", ("go", "a"), NEXT), ("either", ("kept", NAMES), ("along", ("forth", NEXT), ("back", NEXT))))
        text = "both(row go a(next), either(kept(names hue), along(forth(next), back(next))))"
        self.assertEqual(write_kind(kind, spaces(COST)), text)
        self.check_alike(read_kind(COST, spaces(COST), text), kind)

    def test_each_stone(self):
        for kind, text in ((NAMES, "names hue"), (NEXT, "next"), (("both", NEXT, NAMES), "both(next, names hue)"),
                           (("along", NAMES, NEXT), "along(names hue, next)"), (("either", NEXT, NEXT), "either(next, next)"),
                           (("row", ("b",), NEXT), "row b(next)"), (("row", ("b", "a", "c"), NEXT), "row b a c(next)"),
                           (("forth", NEXT), "forth(next)"), (("back", NEXT), "back(next)"), (("kept", NEXT), "kept(next)")):
            self.assertEqual(write_kind(kind, spaces(COST)), text)
            self.check_alike(read_kind(COST, spaces(COST), text), kind)

    def test_written_and_read(self):
        for scale in scales():
            for kind in kinds(scale):
                text = write_kind(kind, spaces(scale))
                self.check_alike(read_kind(scale, spaces(scale), text), kind)
                self.assertIsNone(forms.first_wrong_sign(forms.kind_form(), text))

    def test_the_first_word_that_has_an_equal_space(self):
        told = {"z": hues(COST), "b": hues(COST), "a": empty(COST), "c": hues(COST)}
        self.assertEqual(write_kind(NAMES, told), "names b")
        self.assertEqual(write_kind(("names", empty(COST)), told), "names a")
        self.assertEqual(list(told), ["z", "b", "a", "c"])

    def test_spaces_without_a_word(self):
        self.check_raises(BadKind, write_kind, NAMES, {}, path=())
        self.check_raises(BadKind, write_kind, NAMES, {"a": empty(COST), "b": hues(LevelScale(3))}, path=())
        kind = ("both", ("forth", ("names", empty(COST))), ("row", ("a",), NAMES))
        self.check_raises(BadKind, write_kind, kind, {}, path=(0, 0))
        self.check_raises(BadKind, write_kind, kind, {"a": empty(COST)}, path=(1, 0))
        self.check_raises(BadKind, write_kind, kind, {"a": hues(COST)}, path=(0, 0))
        self.assertEqual(write_kind(("forth", NEXT), {}), "forth(next)")

    def read_bad(self, text, place):
        self.assertEqual(forms.first_wrong_sign(forms.kind_form(), text), place)
        self.check_raises(BadText, read_kind, COST, spaces(COST), text, place=place)

    def test_signs_that_cannot_stand(self):
        for text, place in (("", 0), ("x", 0), ("nex", 3), ("next ", 4), ("nextt", 4), ("names", 5), ("names ", 6),
                            ("names  a", 6), ("names A", 6), ("names 0", 6), ("names hue ", 9), ("names a_", 7),
                            ("names abcdefghijklm", 18), ("nbmes a", 1), ("Next", 0), (" next", 0), ("next\n", 4),
                            ("both(next,next)", 10), ("both(next, next", 15), ("both(next)", 9), ("both (next, next)", 4),
                            ("both(next, next))", 16), ("back(next, next)", 9), ("bath(", 2), ("boch(", 2), ("row (next)", 4),
                            ("row", 3), ("row a", 5), ("row a ", 6), ("row a  b(next)", 6), ("row a (next)", 6),
                            ("row a b", 7), ("row 0(next)", 4), ("row abcdefghijklm(next)", 16), ("row a(next", 10),
                            ("row a,b(next)", 5), ("forth()", 6), ("forth(next),", 11), ("kept(names hue", 14),
                            ("kept(names hue, next)", 14), ("along(next, nope)", 13), ("either(next, ", 13), ("()", 0),
                            ("both(next,\nnext)", 10)):
            self.read_bad(text, place)

    def test_words_of_twelve_and_thirteen(self):
        self.check_alike(read_kind(COST, spaces(COST), "names abcdefghijkl"), ("names", Space(COST, ["x"], [["0"]])))
        self.check_raises(UnknownName, read_kind, COST, spaces(COST), "names abcdefghijkm", name="abcdefghijkm")
        self.read_bad("names abcdefghijkm0", 18)
        self.check_alike(read_kind(COST, {}, "row abcdefghijkl b(next)"), ("row", ("abcdefghijkl", "b"), NEXT))
        self.read_bad("row b abcdefghijklm(next)", 18)

    def test_by_a_second_way(self):
        chance = random.Random(31)
        form = forms.kind_form()
        wrong = 0
        for scale in scales()[:2]:
            for kind in kinds(scale):
                for text in spoilt_texts(write_kind(kind, spaces(scale)), chance, 40):
                    place = forms.first_wrong_sign(form, text)
                    if place is None:
                        error = caught(read_kind, scale, spaces(scale), text)
                        self.assertNotIsInstance(error, BadText)
                    else:
                        wrong += 1
                        self.check_raises(BadText, read_kind, scale, spaces(scale), text, place=place)
        self.assertGreater(wrong, 800)

    def test_words_that_are_none_of_spaces(self):
        self.check_raises(UnknownName, read_kind, COST, {}, "names hue", name="hue")
        text = "both(row a a(names two), forth(names one))"
        self.check_raises(UnknownName, read_kind, COST, {}, text, name="two")
        self.check_raises(UnknownName, read_kind, COST, {"two": hues(COST)}, text, name="one")
        # The text goes ahead of its words.
        self.check_raises(BadText, read_kind, COST, {}, "both(names one, names two", place=25)

    def test_kinds_that_are_none(self):
        given = spaces(COST)
        for text, path in (("row a a(next)", ()), ("row a b c d(next)", ()), ("forth(row b a b(next))", (0,)),
                           ("both(next, kept(row a a(next)))", (1, 0)), ("row a a(row b b(next))", ()),
                           ("either(row a(row b b(next)), row a a(next))", (0, 0))):
            self.check_raises(BadKind, read_kind, COST, given, text, path=path)
        self.check_raises(BadKind, read_kind, LevelScale(1), given, "both(next, names hue)", path=(1,))
        # Unknown words go ahead of stones without a form.
        self.check_raises(UnknownName, read_kind, COST, given, "both(row a a(next), names x)", name="x")


class ValueTextsTest(Checks, unittest.TestCase):

    def test_examples(self):
        state, two = NEXT, ("both", NEXT, NAMES)
        for kind, value, text in (
                (NAMES, "red", "red"), (state, "t", "@t"), (two, ("t", "red"), "(@t, red)"),
                (("along", NAMES, state), ("blue", "s2"), "(blue, @s2)"), (("either", state, two), ("left", "t"), "left @t"),
                (("either", state, two), ("right", ("t", "red")), "right (@t, red)"),
                (("row", ("a",), state), ("t",), "[@t]"), (("row", ("b", "a", "c"), NAMES), ("red", "red", "blue"),
                                                           "[red, red, blue]"),
                (("forth", state), (), "{}"), (("back", NAMES), (("red", "3"),), "{red * 3}"),
                (("kept", two), ((("t", "red"), "0"), (("s2", "red"), "1")), "{(@t, red) * 0, (@s2, red) * 1}"),
                (("forth", ("kept", state)), (((), "1"), ((("t", "2"),), "0")), "{{} * 1, {@t * 2} * 0}")):
            self.assertEqual(write_value(kind, value), text)
            self.check_alike(read_value(kind, COST, STATES, text), value)

    def test_grades_of_all_scales(self):
        pair = PairScale(CostScale(1), SetScale(["x"]))
        kind = ("forth", NEXT)
        value = (("t", "1/x"), ("s2", "0/0"))
        self.assertEqual(write_value(kind, value), "{@t * 1/x, @s2 * 0/0}")
        self.check_alike(read_value(kind, pair, STATES, "{@t * 1/x, @s2 * 0/0}"), value)

    def test_written_and_read(self):
        chance = random.Random(32)
        for scale in scales():
            for kind in kinds(scale):
                for _ in range(12):
                    value = told(kind, scale, STATES, random_data(kind, scale, STATES, chance))
                    text = write_value(kind, value)
                    self.check_alike(read_value(kind, scale, STATES, text), value)
                    self.assertIsNone(forms.first_wrong_sign(forms.value_form(kind), text))

    def test_entries_in_any_order(self):
        kind = ("forth", NEXT)
        self.check_alike(read_value(kind, COST, STATES, "{@s2 * 1, @t * 3, @s2 * none, @t * 2}"),
                         (("t", "2"), ("s2", "1")))
        self.check_alike(read_value(kind, COST, STATES, "{@t * none}"), ())

    def test_states_that_are_no_words(self):
        kind = ("both", ("forth", NEXT), NEXT)
        self.check_raises(BadName, write_value, kind, ((("t", "0"), ("l.t", "1")), "A"), name="l.t")
        self.check_raises(BadName, write_value, kind, ((("t", "0"),), "A"), name="A")
        self.check_raises(BadName, write_value, NEXT, "abcdefghijklm", name="abcdefghijklm")
        self.check_raises(BadName, write_value, NEXT, "", name="")
        self.assertEqual(write_value(NEXT, "abcdefghijkl"), "@abcdefghijkl")

    def read_bad(self, kind, text, place):
        self.assertEqual(forms.first_wrong_sign(forms.value_form(kind), text), place)
        self.check_raises(BadText, read_value, kind, COST, STATES, text, place=place)

    def test_signs_that_cannot_stand(self):
        one = ("forth", NEXT)
        for kind, text, place in (
                (NAMES, "", 0), (NAMES, "0", 0), (NAMES, "red ", 3), (NAMES, "@red", 0), (NAMES, "abcdefghijklm", 12),
                (NEXT, "", 0), (NEXT, "t", 0), (NEXT, "@", 1), (NEXT, "@9", 1), (NEXT, "@t\n", 2),
                (NEXT, "@abcdefghijklm", 13), (one, "", 0), (one, "{", 1), (one, "{ }", 1), (one, "{}}", 2), (one, "{@t}", 3),
                (one, "{@t* 1}", 3), (one, "{@t *1}", 5), (one, "{@t * }", 6), (one, "{@t * 1", 7), (one, "{@t * 1,}", 8),
                (one, "{@t * 1, }", 9), (one, "{@t * 1 , @t * 1}", 7), (one, "{@t * A}", 6), (one, "{@t * 1,@t * 1}", 8),
                (one, "[]", 0), (one, "{,}", 1), (one, "{@t * 1}, ", 8),
                (("both", NEXT, NEXT), "(@t,@t)", 4), (("both", NEXT, NEXT), "(@t)", 3), (("both", NEXT, NEXT), "[@t, @t]", 0),
                (("both", NEXT, NEXT), "(@t, @t, @t)", 7), (("along", NEXT, NAMES), "(@t, @t)", 5),
                (("either", NEXT, NAMES), "left red", 5), (("either", NEXT, NAMES), "right @t", 6),
                (("either", NEXT, NAMES), "lift", 1), (("either", NEXT, NAMES), "left  @t", 5),
                (("either", NEXT, NAMES), "@t", 0), (("either", NEXT, NAMES), "right", 5),
                (("row", ("a", "b"), NAMES), "[red]", 4), (("row", ("a", "b"), NAMES), "[red, red, red]", 9),
                (("row", ("a",), NAMES), "[red, red]", 4), (("row", ("a",), NAMES), "[]", 1), (("row", ("a",), NAMES), "(red)", 0),
                (("row", ("a",), NAMES), "[red", 4)):
            self.read_bad(kind, text, place)

    def test_grades_of_any_length(self):
        text = "{@t * " + "0/az" * 20
        self.read_bad(("forth", NEXT), text, len(text))
        self.check_raises(UnknownGrade, read_value, ("forth", NEXT), COST, STATES, text + "}", name="0/az" * 20)
        self.check_raises(UnknownGrade, read_value, ("forth", NEXT), COST, STATES, "{@t * /}", name="/")

    def test_by_a_second_way(self):
        chance = random.Random(33)
        wrong = 0
        for scale in [COST, PairScale(CostScale(1), LevelScale(1)), one_grade()]:
            for kind in kinds(scale):
                form = forms.value_form(kind)
                for _ in range(6):
                    value = told(kind, scale, STATES, random_data(kind, scale, STATES, chance, 2))
                    for text in spoilt_texts(write_value(kind, value), chance, 12):
                        place = forms.first_wrong_sign(form, text)
                        if place is None:
                            self.assertNotIsInstance(caught(read_value, kind, scale, STATES, text), BadText)
                        else:
                            wrong += 1
                            self.check_raises(BadText, read_value, kind, scale, STATES, text, place=place)
        self.assertGreater(wrong, 1500)

    def test_errors_of_values_behind_those_of_texts(self):
        kind = ("both", ("forth", NAMES), NEXT)
        self.check_raises(UnknownName, read_value, kind, COST, STATES, "({pink * bad}, @x)", name="pink")
        self.check_raises(UnknownGrade, read_value, kind, COST, STATES, "({red * bad}, @x)", name="bad")
        self.check_raises(UnknownState, read_value, kind, COST, STATES, "({red * none}, @x)", name="x")
        self.check_raises(UnknownName, read_value, kind, COST, STATES, "({red * 0, x * none}, @x)", name="x")
        self.check_raises(BadText, read_value, kind, COST, STATES, "({pink * bad}, @x", place=17)
        self.assertIsNone(caught(read_value, kind, COST, ("t",), "({}, @t)"))
        self.assertNotIsInstance(caught(read_value, kind, COST, (), "({}, @t)"), BadValue)


if __name__ == "__main__":
    unittest.main()
