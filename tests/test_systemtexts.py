import random
import unittest

from neargrades.errors import BadName, BadText, BadValue, TwiceTold, UnknownGrade, UnknownName, UnknownState
from neargrades.kindtexts import write_value
from neargrades.scales import CostScale, PairScale
from neargrades.systems import System, made_system
from neargrades.systemtexts import read_system, write_system
from tests.forms import WORD, first_wrong_sign, literal, row, value_form
from tests.kindsamples import hues, kinds, random_data, scales
from tests.nearsamples import STATE_NAMES, any_system, random_system
from tests.samples import Checks, caught

COST = CostScale(3)
NAMES = ("names", hues(COST))
SET = ("forth", ("next",))


def wrong_place(kind, text):
    """The place by the words of S4.4, None if there is none."""
    if text == "":
        return None
    form = row(WORD, literal(" = "), value_form(kind))
    for k, line in enumerate(text.split("\n")):
        sign = first_wrong_sign(form, line)
        if sign is not None:
            return (k, sign)
    return None


class WriteTest(Checks, unittest.TestCase):

    def test_example(self):
        self.check_alike(write_system(any_system()), "a = (red, {@b * 0, @c * 1})\nb = (blue, {})\nc = (red, {@a * 2})")

    def test_no_states(self):
        self.check_alike(write_system(System(COST, NAMES, [], {})), "")

    def test_rows_by_their_words(self):
        chance = random.Random(1)
        for scale in scales():
            for kind in kinds(scale):
                system = random_system(kind, scale, STATE_NAMES, chance)
                rows = [x + " = " + write_value(kind, system.step(x)) for x in STATE_NAMES]
                self.check_alike(write_system(system), "\n".join(rows))

    def test_the_first_state_that_is_no_word(self):
        kind = ("both", ("next",), SET)
        system = made_system(COST, kind, ["a", "B", "C", "D"], {
            "a": ("a", [("D", "0"), ("C", "0")]), "B": ("a", []), "C": ("a", []), "D": ("a", [])})
        self.check_raises(BadName, write_system, system, name="C")
        system = made_system(COST, kind, ["a", "B", "C"], {"a": ("C", [("B", "0")]), "B": ("a", []), "C": ("a", [])})
        self.check_raises(BadName, write_system, system, name="C")
        system = made_system(COST, kind, ["a", "B", "C"], {"a": ("a", []), "B": ("C", []), "C": ("a", [])})
        self.check_raises(BadName, write_system, system, name="B")
        for name in ("", "0", "l.a", "a,b", "abcdefghijklm", "\u00e9"):
            system = made_system(COST, NAMES, ["a", name], {"a": "red", name: "red"})
            self.check_raises(BadName, write_system, system, name=name)


class ReadTest(Checks, unittest.TestCase):

    def test_what_was_written_is_read(self):
        chance = random.Random(2)
        for scale in scales():
            for kind in kinds(scale):
                for count in (0, 1, 5):
                    system = random_system(kind, scale, STATE_NAMES[:count], chance) if count else System(
                        scale, kind, [], {})
                    text = write_system(system)
                    told = read_system(scale, kind, text)
                    self.assertIs(type(told), System)
                    self.assertTrue(told == system)
                    self.assertEqual(write_system(told), text)

    def test_the_empty_text(self):
        system = read_system(COST, SET, "")
        self.assertEqual((system.states(), system.kind), ([], SET))

    def test_rows_that_are_empty(self):
        for text, place in [("\n", (0, 0)), ("a = {}\n", (1, 0)), ("\na = {}", (0, 0)), ("a = {}\n\nb = {}", (1, 0)),
                            ("a = {}\n\n", (1, 0)), (" ", (0, 0))]:
            self.check_raises(BadText, read_system, COST, SET, text, place=place)

    def test_entries_in_any_order(self):
        told = read_system(COST, SET, "b = {@a * 3, @b * 0, @a * 1}\na = {@a * none}")
        self.assertEqual(told.states(), ["b", "a"])
        self.assertEqual((told.step("b"), told.step("a")), ((("b", "0"), ("a", "1")), ()))

    def test_long_words(self):
        word = "abcdefghijkl"
        self.assertEqual(read_system(COST, SET, word + " = {@" + word + " * 1}").step(word), ((word, "1"),))
        self.check_raises(BadText, read_system, COST, SET, word + "m = {}", place=(0, 12))
        self.check_raises(BadText, read_system, COST, SET, "a = {}\nb = {@" + word + "m * 1}", place=(1, 18))

    def test_examples_of_places(self):
        for text, place in [
            ("a", (0, 1)), ("a ", (0, 2)), ("a  = {}", (0, 2)), ("a = ", (0, 4)), ("a={}", (0, 1)), ("A = {}", (0, 0)),
            ("0 = {}", (0, 0)), ("a = {}x", (0, 6)), ("a = {} ", (0, 6)), ("a = {@a * }", (0, 10)),
            ("a = {}\nb = {", (1, 5)), ("a = {\n}", (0, 5)), ("a = {}\n b = {}", (1, 0)), ("a = {@A * 1}", (0, 6)),
            ("a = {}\nb = {@c * 9}\nc = [", (2, 4)), ("a = {@a * 1,@a * 2}", (0, 12)), ("a = red", (0, 4)),
        ]:
            self.check_raises(BadText, read_system, COST, SET, text, place=place)

    def test_places_by_the_form(self):
        chance = random.Random(3)
        signs = "ab @=*{}()[],0/A\n~"
        seen = 0
        for kind in kinds(COST):
            for _ in range(60):
                text = write_system(random_system(kind, COST, ["a", "b2"], chance, 2))
                for _ in range(chance.choice([1, 1, 1, 2])):
                    at = chance.randrange(len(text) + 1)
                    act = chance.randrange(3)
                    text = text[:at] + ("" if act == 0 else chance.choice(signs)) + text[at + (act != 1):]
                place = wrong_place(kind, text)
                error = caught(read_system, COST, kind, text)
                if place is None:
                    self.assertNotIsInstance(error, BadText, text)
                else:
                    seen += 1
                    self.check_raises(BadText, read_system, COST, kind, text, place=place)
        self.assertGreater(seen, 500)

    def test_texts_that_end_too_early(self):
        for kind in kinds(COST):
            text = write_system(random_system(kind, COST, ["a", "b2"], random.Random(4), 2))
            for end in range(1, len(text)):
                place = wrong_place(kind, text[:end])
                if place is not None:
                    self.check_raises(BadText, read_system, COST, kind, text[:end], place=place)

    def test_errors_of_systems_behind_those_of_the_text(self):
        self.check_raises(BadText, read_system, COST, SET, "a = {}\na = {@x * 9}\nb", place=(2, 1))
        self.check_raises(TwiceTold, read_system, COST, SET, "b = {}\na = {@x * 9}\na = {}\nb = {}", name="a")
        self.check_raises(UnknownState, read_system, COST, SET, "a = {@x * 9}", name="x")
        self.check_raises(UnknownGrade, read_system, COST, SET, "a = {@a * 9}\nb = {@x * 1}", name="9")
        self.check_raises(UnknownGrade, read_system, COST, SET, "a = {@a * 1/0}", name="1/0")
        self.check_raises(UnknownName, read_system, COST, NAMES, "a = green", name="green")
        self.assertIsNone(caught(read_system, COST, NAMES, "red = red"))

    def test_grades_with_strokes(self):
        scale = PairScale(CostScale(1), CostScale(0))
        told = read_system(scale, SET, "a = {@a * 1/0}")
        self.assertEqual(told.step("a"), (("a", "1/0"),))
        self.assertEqual(write_system(told), "a = {@a * 1/0}")

    def test_no_bad_values_can_be_told(self):
        chance = random.Random(5)
        for kind in kinds(COST):
            data = {x: random_data(kind, COST, ["a"], chance) for x in ["a"]}
            text = write_system(System(COST, kind, ["a"], data))
            self.assertNotIsInstance(caught(read_system, COST, kind, text), BadValue)


if __name__ == "__main__":
    unittest.main()
