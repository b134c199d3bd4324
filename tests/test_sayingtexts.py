import random
import unittest

from neargrades.errors import BadText
from neargrades.sayings import check_saying, parts_of
from neargrades.sayingtexts import read_saying, write_saying
from neargrades.scales import CostScale, PairScale, SetScale
from neargrades.systems import System
from neargrades.told import told_saying
from tests.forms import GRADE, WORD, choice, first_wrong_sign, later, listed, literal, row
from tests.kindsamples import kinds, scales
from tests.samples import Checks, caught
from tests.sayingsamples import random_saying

SAYINGS = [
    ("0", "=0"), ("none", "=none"), ("a/b", "=a/b"), ("abcdefghijklm", "=abcdefghijklm"), ("/", "=/"),
    (("like", "red"), "like(red)"), (("like", "abcdefghijkl"), "like(abcdefghijkl)"), (("now", "0"), "now(=0)"),
    (("and", "0", "1"), "and(=0, =1)"), (("or", "0", "1"), "or(=0, =1)"), (("by", "0", "1"), "by(=0, =1)"),
    (("if", "1/b", "1"), "if(=1/b, =1)"), (("step", "0"), "step(=0)"), (("halves", "0", "1"), "halves(=0, =1)"),
    (("left", "0"), "left(=0)"), (("right", "0"), "right(=0)"), (("rows", "0"), "rows(=0)"),
    (("rows", "0", "1"), "rows(=0, =1)"), (("rows", "0", ("now", "1"), "2", "3"), "rows(=0, now(=1), =2, =3)"),
    (("some", "0"), "some(=0)"), (("all", "0"), "all(=0)"),
    (("and", ("by", "1", ("step", ("some", ("like", "a1")))), ("if", "0", "1")), "and(by(=1, step(some(like(a1)))), if(=0, =1))"),
]


def saying_form():
    inner = later(saying_form)
    one, two = row(inner, literal(")")), row(inner, literal(", "), inner, literal(")"))
    graded = row(literal("="), GRADE, literal(", "), inner, literal(")"))
    return choice(
        row(literal("="), GRADE), row(literal("like("), WORD, literal(")")),
        row(literal("and("), two), row(literal("or("), two), row(literal("halves("), two),
        row(literal("by("), graded), row(literal("if("), graded), row(literal("rows("), listed(inner), literal(")")),
        *[row(literal(word + "("), one) for word in ("step", "now", "left", "right", "some", "all")],
    )


class TextTest(Checks, unittest.TestCase):

    def test_each_form(self):
        for saying, text in SAYINGS:
            self.check_alike(write_saying(saying), text)
            self.check_alike(read_saying(text), saying)

    def test_there_and_back(self):
        chance = random.Random(1)
        for scale in scales() + [PairScale(CostScale(1), CostScale(2))]:
            for kind in kinds(scale):
                for _ in range(6):
                    for place in ("states", kind):
                        saying = random_saying(kind, scale, chance, 7, place)
                        text = write_saying(saying)
                        self.check_alike(read_saying(text), saying)
                        self.assertIsNone(first_wrong_sign(saying_form(), text))

    def test_what_is_read_need_not_stand_anywhere(self):
        # By the form any saying may stand where a saying stands.
        saying = read_saying("now(step(now(rows(like(x), =9/9))))")
        self.check_alike(saying, ("now", ("step", ("now", ("rows", ("like", "x"), "9/9")))))

    def test_deep_ones(self):
        saying = "0"
        for _ in range(3000):
            saying = ("step", ("and", "1", saying))
        text = write_saying(saying)
        self.assertEqual(len(text), len("step(and(=1, ))") * 3000 + 2)
        self.assertEqual(write_saying(read_saying(text)), text)
        self.check_raises(BadText, read_saying, text[:-1], place=len(text) - 1)
        system = System(CostScale(1), ("next",), ["a"], {"a": "a"})
        told = told_saying(system, "a", 199)
        self.check_alike(parts_of(("next",), system.scale, read_saying(write_saying(told))), parts_of(
            ("next",), system.scale, told))
        self.assertIsNone(check_saying(("next",), system.scale, read_saying("step(now(step(=0)))")))


class BadTextTest(Checks, unittest.TestCase):

    def test_examples(self):
        for text, place in [
            ("", 0), (" ", 0), ("=", 1), ("= 0", 1), ("=A", 1), ("=0 ", 2), ("=0)", 2), ("0", 0), ("a", 1), ("al", 2), ("an", 2),
            ("all", 3), ("and", 3), ("ano(=0)", 2), ("and(=0)", 6), ("and(=0,=1)", 7), ("and(=0, =1", 10), ("and(=0, =1, =2)", 10),
            ("and()", 4), ("by(=0, =1))", 10), ("by(step(=0), =1)", 3), ("by(0, =1)", 3), ("by(=0)", 5), ("if(=0, )", 7),
            ("like()", 5), ("like(=0)", 5), ("like(9a)", 5), ("like(abcdefghijkl)", None), ("like(abcdefghijklm)", 17),
            ("like(a b)", 6), ("like(a, b)", 6), ("rows()", 5), ("rows", 4), ("rows(=0, )", 9), ("rows(=0,)", 8),
            ("rows(=0, =1", 11), ("right(=0)", None), ("rightly(=0)", 5), ("step(=0, =1)", 7), ("steps(=0)", 4),
            ("some(=a/b/c)", None), ("some(like(a))x", 13), ("now(=0)\n", 7), ("and(=0, =1)", None), ("And(=0, =1)", 0),
            ("l", 1), ("li", 2), ("le", 2), ("lo", 1), ("halves(=0, =1)", None), ("halves(=0)", 9),
        ]:
            self.assertEqual(first_wrong_sign(saying_form(), text), place, text)
            if place is None:
                self.assertIsNone(caught(read_saying, text), text)
            else:
                self.check_raises(BadText, read_saying, text, place=place)

    def test_each_beginning(self):
        for _, text in SAYINGS:
            for count in range(len(text)):
                self.check_same(text[:count])

    def test_changed_texts(self):
        chance = random.Random(2)
        signs = "=(), abelikw09/A\n~"
        texts = [text for _, text in SAYINGS] + [
            write_saying(random_saying(kind, SetScale(["p", "q"]), chance, 6, kind)) for kind in kinds(SetScale(["p", "q"]))]
        for text in texts:
            for _ in range(40):
                at = chance.randrange(len(text) + 1)
                until = min(len(text), at + chance.choice([0, 0, 1, 1, 2, 4]))
                self.check_same(text[:at] + "".join(chance.choice(signs) for _ in range(chance.randrange(3))) + text[until:])

    def check_same(self, text):
        """What the reader tells, and what a second way tells."""
        place = first_wrong_sign(saying_form(), text)
        if place is None:
            self.check_alike(write_saying(read_saying(text)), text)
        else:
            self.check_raises(BadText, read_saying, text, place=place)


if __name__ == "__main__":
    unittest.main()
