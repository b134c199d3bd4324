import unittest

from neargrades.errors import BadScale, UnknownGrade
from neargrades.scales import (
    CostScale, LevelScale, PairScale, Scale, SetScale, StopScale, TableScale, first_fault,
)
from tests.samples import (
    Checks, any_values, diamond, lawful_scales, one_grade, share_nothing, spoil, table_of, tuples,
)

BOOLS = ["f", "t"]
OR = [["f", "t"], ["t", "t"]]
AND = [["f", "f"], ["f", "t"]]


def bools():
    return TableScale(BOOLS, OR, AND, none="f", nearest="t")


class TableScaleTest(Checks, unittest.TestCase):

    def bad(self, grades, joins, products, none, nearest):
        self.check_raises(BadScale, lambda: TableScale(grades, joins, products, none=none, nearest=nearest))

    def test_tables_are_read_by_place(self):
        # Neither table is turned or lawful: each entry has its own place.
        grades = ["a", "b", "c"]
        joins = [["a", "b", "c"], ["b", "c", "a"], ["a", "a", "b"]]
        products = [["c", "a", "a"], ["b", "b", "c"], ["c", "a", "c"]]
        scale = TableScale(grades, joins, products, none="b", nearest="c")
        for i, a in enumerate(grades):
            for j, b in enumerate(grades):
                self.assertEqual(scale.join(a, b), joins[i][j])
                self.assertEqual(scale.then(a, b), products[i][j])
        self.assertEqual((scale.none, scale.nearest), ("b", "c"))
        self.assertEqual(scale.grades(), grades)

    def test_tuples_do_as_well(self):
        scale = TableScale(tuple(BOOLS), tuple(map(tuple, OR)), (["f", "f"], ("f", "t")), none="f", nearest="t")
        self.assertEqual(scale, bools())

    def test_none_and_nearest_are_named(self):
        with self.assertRaises(TypeError):
            TableScale(BOOLS, OR, AND, "f", "t")
        with self.assertRaises(TypeError):
            TableScale(BOOLS, OR, AND)

    def test_one_grade(self):
        scale = one_grade("z9")
        self.assertEqual((scale.grades(), scale.none, scale.nearest, len(scale)), (["z9"], "z9", "z9", 1))
        self.assertIsNone(first_fault(scale))
        self.assertEqual((scale.joined([]), scale.met([])), ("z9", "z9"))

    def test_eight_grades_and_nine(self):
        for count in (8, 9):
            grades = [f"g{k}" for k in range(count)]
            joins = [[grades[max(i, j)] for j in range(count)] for i in range(count)]
            products = [[grades[min(i, j)] for j in range(count)] for i in range(count)]
            if count == 8:
                scale = TableScale(grades, joins, products, none="g0", nearest="g7")
                self.assertEqual(len(scale), 8)
            else:
                self.bad(grades, joins, products, "g0", "g8")

    def test_no_grades(self):
        self.bad([], [], [], "f", "t")
        self.bad((), (), (), None, None)

    def test_names_of_grades(self):
        for name in ("a", "0", "abcdefghijkl", "0123456789ab", "9z"):
            self.assertEqual(one_grade(name).grades(), [name])
        for name in any_values() + ["abcdefghijklm", "0123456789abc", "A", "a/b", "a b", "a-", "\u00e9", "\u0661", "a\n"]:
            if name == "zz":
                continue
            self.bad([name], [[name]], [[name]], name, name)
            self.bad([name, "t"], [[name, "t"], ["t", "t"]], [[name, name], [name, "t"]], name, "t")

    def test_no_grade_twice(self):
        self.bad(["f", "f"], [["f", "f"], ["f", "f"]], [["f", "f"], ["f", "f"]], "f", "f")
        self.bad(["f", "t", "f"], [["f"] * 3] * 3, [["f"] * 3] * 3, "f", "t")

    def test_any_value_as_a_part(self):
        for value in any_values() + ["f", "ft", b"f", {"f": 0, "t": 1}]:
            self.bad(value, OR, AND, "f", "t")
            self.bad(BOOLS, value, AND, "f", "t")
            self.bad(BOOLS, OR, value, "f", "t")
            self.bad(BOOLS, [value, OR[1]], AND, "f", "t")
            self.bad(BOOLS, OR, [AND[0], value], "f", "t")
            if value != "f":
                self.bad(BOOLS, [OR[0], ["t", value]], AND, "f", "t")
                self.bad(BOOLS, OR, [[value, "f"], AND[1]], "f", "t")
                self.bad(BOOLS, OR, AND, value, "t")
                self.bad(BOOLS, OR, AND, "f", value)

    def test_wrong_numbers_of_rows_and_entries(self):
        for rows in ([], OR[:1], OR + [["t", "t"]], [["f"], ["t", "t"]], [["f", "t", "t"], ["t", "t"]],
                     [["f", "t"], ["t"]], [["f", "t"], []]):
            self.bad(BOOLS, rows, AND, "f", "t")
            self.bad(BOOLS, OR, rows, "f", "t")
        self.bad(BOOLS + ["u"], OR, AND, "f", "t")
        self.bad(BOOLS[:1], OR, AND, "f", "f")
        self.bad(BOOLS, AND, BOOLS, "f", "t")

    def test_what_was_passed_may_be_changed_behind_the_call(self):
        parts = [list(BOOLS), [list(row) for row in OR], [list(row) for row in AND]]
        scale = TableScale(*parts, none="f", nearest="t")
        self.assertEqual(parts, [BOOLS, OR, AND])
        spoil(parts)
        parts[1][0][0] = "t"
        self.assertEqual(scale, bools())
        self.assertEqual(scale.grades(), BOOLS)


class FamiliesTest(Checks, unittest.TestCase):

    def test_each_is_a_scale(self):
        for scale in lawful_scales():
            self.assertIsInstance(scale, Scale)
            self.assertIsNone(first_fault(scale))

    def sums(self, make, top, beyond):
        scale = make(top)
        self.assertEqual(scale.grades(), [str(k) for k in range(top + 1)] + ["none"])
        self.assertEqual((scale.none, scale.nearest), ("none", "0"))
        for a in range(top + 1):
            self.assertEqual(scale.join(str(a), "none"), str(a))
            self.assertEqual(scale.join("none", str(a)), str(a))
            self.assertEqual(scale.then(str(a), "none"), "none")
            self.assertEqual(scale.then("none", str(a)), "none")
            for b in range(top + 1):
                self.assertEqual(scale.join(str(a), str(b)), str(min(a, b)))
                self.assertEqual(scale.then(str(a), str(b)), str(a + b) if a + b <= top else beyond)
        self.assertEqual((scale.join("none", "none"), scale.then("none", "none")), ("none", "none"))

    def test_cost(self):
        for top in range(7):
            self.sums(CostScale, top, "none")

    def test_stop(self):
        for top in range(7):
            self.sums(StopScale, top, str(top))

    def test_level(self):
        for top in range(1, 8):
            scale = LevelScale(top)
            self.assertEqual(scale.grades(), [str(k) for k in range(top + 1)])
            self.assertEqual((scale.none, scale.nearest), ("0", str(top)))
            for a, b in tuples(range(top + 1), 2):
                self.assertEqual(scale.join(str(a), str(b)), str(max(a, b)))
                self.assertEqual(scale.then(str(a), str(b)), str(min(a, b)))

    def test_tops(self):
        for make, wrong in ((CostScale, (-1, 7)), (StopScale, (-1, 7)), (LevelScale, (0, 8, -1))):
            for top in list(wrong) + [10 ** 30, -10 ** 30, True, False, None, "1", "", (), (1,), [], [1], {}, {1: 1}]:
                self.check_raises(BadScale, make, top)

    def test_sets_in_order(self):
        self.assertEqual(SetScale(["a", "b", "c"]).grades(), ["0", "a", "b", "ab", "c", "ac", "bc", "abc"])
        self.assertEqual(SetScale(("c", "a")).grades(), ["0", "c", "a", "ca"])
        self.assertEqual(SetScale(["z"]).grades(), ["0", "z"])

    def test_sets(self):
        for names in (["a"], ["b", "a"], ["x", "c", "q"]):
            scale = SetScale(names)
            written = {"".join(n for n in names if n in some) or "0": {n for n in names if n in some}
                       for some in scale.grades()}
            self.assertEqual(list(written), scale.grades())
            self.assertEqual(len(scale), 2 ** len(names))
            for a, b in tuples(scale.grades(), 2):
                self.assertEqual(written[scale.join(a, b)], written[a] | written[b])
                self.assertEqual(written[scale.then(a, b)], written[a] & written[b])
            self.assertEqual((scale.none, scale.nearest), ("0", "".join(names)))

    def test_letters(self):
        for names in ([], (), ["a", "b", "c", "d"], ["a", "a"], ["a", "b", "a"], ["A"], ["0"], ["ab"], [""], ["a", ""],
                      ["\u00e9"], ["{"], ["`"], "a", "abc", None, True, 1, {"a": 1}, {}, [None], [1], [True], [["a"]],
                      [("a",)], [{}], ["a", None], ["a", "b", []]):
            self.check_raises(BadScale, SetScale, names)

    def test_letters_at_the_ends(self):
        self.assertEqual(SetScale(["z", "a"]).nearest, "za")

    def test_set_names_are_not_kept(self):
        names = ["b", "a"]
        scale = SetScale(names)
        self.assertEqual(names, ["b", "a"])
        names.append("c")
        self.assertEqual(scale, SetScale(["b", "a"]))

    def test_pairs(self):
        for left, right in ((CostScale(1), LevelScale(2)), (diamond(), StopScale(1)), (one_grade(), CostScale(6))):
            scale = PairScale(left, right)
            self.assertIs(scale.left, left)
            self.assertIs(scale.right, right)
            pairs = [(a, b) for a in left.grades() for b in right.grades()]
            self.assertEqual(scale.grades(), [a + "/" + b for a, b in pairs])
            self.assertEqual(scale.none, left.none + "/" + right.none)
            self.assertEqual(scale.nearest, left.nearest + "/" + right.nearest)
            for (a, b), (c, d) in tuples(pairs, 2):
                self.assertEqual(scale.join(a + "/" + b, c + "/" + d), left.join(a, c) + "/" + right.join(b, d))
                self.assertEqual(scale.then(a + "/" + b, c + "/" + d), left.then(a, c) + "/" + right.then(b, d))

    def test_pairs_of_twelve_and_more(self):
        self.assertEqual(len(PairScale(LevelScale(3), LevelScale(2))), 12)
        self.assertEqual(len(PairScale(LevelScale(1), LevelScale(5))), 12)
        for left, right in ((LevelScale(3), LevelScale(3)), (LevelScale(6), LevelScale(1)),
                            (CostScale(6), CostScale(6)), (LevelScale(1), LevelScale(6))):
            self.check_raises(BadScale, PairScale, left, right)

    def test_pairs_of_what_is_no_scale(self):
        for value in any_values():
            self.check_raises(BadScale, PairScale, value, CostScale(0))
            self.check_raises(BadScale, PairScale, CostScale(0), value)

    def test_pairs_of_scales_that_are_not_lawful(self):
        scale = PairScale(TableScale(BOOLS, AND, OR, none="t", nearest="t"), CostScale(0))
        self.assertEqual(scale.join("f/0", "t/none"), "f/0")
        self.assertEqual(first_fault(scale), ("one", ("f/0",)))


class EveryScaleTest(Checks, unittest.TestCase):

    def test_grades_are_a_new_list(self):
        for scale in lawful_scales():
            told = scale.grades()
            self.assertTrue(share_nothing(told, scale.grades()))
            told.clear()
            self.assertEqual(len(scale.grades()), len(scale))

    def test_in_and_len(self):
        scale = CostScale(2)
        self.assertEqual(len(scale), 4)
        for grade in scale.grades():
            self.assertIs(grade in scale, True)
        for value in any_values() + ["3", "00", "0 ", b"0", ("none",)]:
            self.assertIs(value in scale, False, value)

    def test_unknown_grades(self):
        scale = StopScale(2)
        for method in (scale.join, scale.then, scale.meet, scale.only):
            for value in any_values() + ["3"]:
                self.check_raises(UnknownGrade, method, value, "0", name=value)
                self.check_raises(UnknownGrade, method, "0", value, name=value)
                self.check_raises(UnknownGrade, method, value, "first", name=value)
                self.check_raises(UnknownGrade, method, "first", value, name="first")

    def test_rows(self):
        for scale in lawful_scales():
            self.assertEqual(scale.joined([]), scale.none)
            self.assertEqual(scale.joined(()), scale.none)
            self.assertEqual(scale.met([]), scale.nearest)
            for a, b in tuples(scale.grades(), 2):
                self.assertEqual(scale.joined([a]), a)
                self.assertEqual(scale.met([a]), a)
                self.assertEqual(scale.joined([a, b]), scale.join(a, b))
                self.assertEqual(scale.met((a, b)), scale.meet(a, b))
                self.assertEqual(scale.joined((a, b, a, b)), scale.join(a, b))

    def test_joined_goes_from_the_left(self):
        joins = [["b", "c", "a"], ["a", "b", "b"], ["c", "a", "c"]]
        scale = TableScale(["a", "b", "c"], joins, joins, none="c", nearest="b")
        for row in tuples("abc", 3):
            self.assertEqual(scale.joined(list(row)), scale.join(scale.join(row[0], row[1]), row[2]))
        for grade in "abc":
            self.assertEqual(scale.joined([grade]), grade)
        self.assertEqual(scale.joined([]), "c")

    def test_unknown_grades_in_rows(self):
        scale = LevelScale(2)
        for method in (scale.joined, scale.met):
            for value in any_values() + ["3"]:
                self.check_raises(UnknownGrade, method, [value], name=value)
                self.check_raises(UnknownGrade, method, ("0", value, "first", None), name=value)
            self.check_raises(UnknownGrade, method, ["2", "x", "y"], name="x")

    def test_rows_are_not_changed(self):
        row = ["1", "0", "2"]
        self.assertEqual((LevelScale(2).joined(row), LevelScale(2).met(row)), ("2", "0"))
        self.assertEqual(row, ["1", "0", "2"])

    def test_errors_keep_nothing(self):
        value = [["x"]]
        try:
            LevelScale(2).join("0", value)
        except UnknownGrade as error:
            spoil(value)
            self.assertEqual(error.name, [["x"]])

    def test_equal_whatever_they_are_made_by(self):
        scales = lawful_scales()
        for scale in scales:
            if len(scale) <= 8 and "/" not in scale.none:
                grades, joins, products, none, nearest = table_of(scale)
                self.assertTrue(scale == TableScale(grades, joins, products, none=none, nearest=nearest))
                self.assertFalse(scale != TableScale(grades, joins, products, none=none, nearest=nearest))
        for i, scale in enumerate(scales):
            for j, other in enumerate(scales):
                self.assertIs(scale == other, i == j or {i, j} == {1, 5})
        self.assertTrue(CostScale(0) == StopScale(0))
        self.assertTrue(SetScale(["a"]) == TableScale(["0", "a"], [["0", "a"], ["a", "a"]], [["0", "0"], ["0", "a"]],
                                                      none="0", nearest="a"))

    def test_unequal_by_each_part(self):
        scale = bools()
        others = [
            TableScale(["f", "u"], [["f", "u"], ["u", "u"]], [["f", "f"], ["f", "u"]], none="f", nearest="u"),
            TableScale(["t", "f"], [["t", "t"], ["t", "f"]], [["t", "f"], ["f", "f"]], none="f", nearest="t"),
            TableScale(BOOLS, AND, AND, none="f", nearest="t"),
            TableScale(BOOLS, OR, OR, none="f", nearest="t"),
            TableScale(BOOLS, OR, AND, none="t", nearest="t"),
            TableScale(BOOLS, OR, AND, none="f", nearest="f"),
        ]
        for other in others:
            self.assertIs(scale == other, False)
            self.assertIs(scale != other, True)
        for value in any_values() + [scale.grades()]:
            self.assertIs(scale == value, False)

    def test_unequal_by_the_order_of_the_grades_alone(self):
        rows = [["f", "f"], ["f", "f"]]
        one = TableScale(["f", "t"], rows, rows, none="f", nearest="f")
        for grades in (["t", "f"], ["f", "u"]):
            self.assertIs(one == TableScale(grades, rows, rows, none="f", nearest="f"), False)
        self.assertIs(one == TableScale(("f", "t"), rows, rows, none="f", nearest="f"), True)

    def test_meet_and_only_by_their_words(self):
        for scale in lawful_scales():
            grades = scale.grades()
            inside = {(a, b) for a, b in tuples(grades, 2) if scale.join(a, b) == b}
            for a, b in tuples(grades, 2):
                under = [d for d in grades if (d, a) in inside and (d, b) in inside]
                self.assertIn(scale.meet(a, b), under)
                self.assertTrue(all((d, scale.meet(a, b)) in inside for d in under))
                fitting = [d for d in grades if (scale.then(a, d), b) in inside]
                self.assertIn(scale.only(a, b), fitting)
                self.assertTrue(all((d, scale.only(a, b)) in inside for d in fitting))

    def test_meet_and_only_of_families(self):
        cost = CostScale(3)
        self.assertEqual(cost.meet("1", "3"), "3")
        self.assertEqual(cost.meet("1", "none"), "none")
        self.assertEqual([cost.only("1", b) for b in cost.grades()], ["0", "0", "1", "2", "3"])
        self.assertEqual(cost.only("none", "none"), "0")
        self.assertEqual(cost.only("0", "none"), "none")
        stop = StopScale(3)
        self.assertEqual([stop.only("2", b) for b in stop.grades()], ["0", "0", "0", "1", "none"])
        level = LevelScale(3)
        self.assertEqual([level.only("2", b) for b in level.grades()], ["0", "1", "3", "3"])
        self.assertEqual(diamond().only("p", "q"), "q")
        self.assertEqual(diamond().meet("p", "q"), "0")
        pair = PairScale(CostScale(1), LevelScale(1))
        self.assertEqual(pair.only("1/1", "1/0"), "0/0")
        self.assertEqual(pair.met(["1/1", "0/0", "0/1"]), "1/0")


def oracle(scale):
    """first_fault by the words of the document."""
    grades = scale.grades()
    j, p, none, near = scale.join, scale.then, scale.none, scale.nearest
    laws = [
        ("join turned", 2, lambda a, b: j(a, b) == j(b, a)),
        ("join joined", 3, lambda a, b, c: j(j(a, b), c) == j(a, j(b, c))),
        ("join once", 1, lambda a: j(a, a) == a),
        ("none", 1, lambda a: j(none, a) == a),
        ("product turned", 2, lambda a, b: p(a, b) == p(b, a)),
        ("product joined", 3, lambda a, b, c: p(p(a, b), c) == p(a, p(b, c))),
        ("spread", 3, lambda a, b, c: p(a, j(b, c)) == j(p(a, b), p(a, c))),
        ("gone", 1, lambda a: p(none, a) == none),
        ("one", 1, lambda a: p(near, a) == a),
        ("greatest", 1, lambda a: j(near, a) == near),
    ]
    for word, count, holds in laws:
        for members in tuples(grades, count):
            if not holds(*members):
                return (word, members)
    return None


class FirstFaultTest(Checks, unittest.TestCase):

    def fault(self, joins, products, none, nearest, grades="abc"):
        grades = list(grades)[:len(joins)]
        return first_fault(TableScale(grades, [list(row) for row in joins], [list(row) for row in products],
                                      none=none, nearest=nearest))

    def test_each_word(self):
        chain, least = ["abc", "bbc", "ccc"], ["aaa", "abb", "abc"]
        self.assertIsNone(self.fault(chain, least, "a", "c"))
        self.check_alike(self.fault(["abc", "bbc", "bcc"], least, "a", "c"), ("join turned", ("a", "c")))
        self.check_alike(self.fault(["abc", "bba", "cac"], least, "a", "c"), ("join joined", ("b", "b", "c")))
        self.check_alike(self.fault(["ab", "ba"], ["aa", "ab"], "a", "b"), ("join once", ("b",)))
        self.check_alike(self.fault(chain, least, "b", "c"), ("none", ("a",)))
        self.check_alike(self.fault(chain, ["aaa", "abb", "aac"], "a", "c"), ("product turned", ("b", "c")))
        self.check_alike(self.fault(chain, ["cba", "bab", "abc"], "a", "c"), ("product joined", ("a", "b", "b")))
        self.check_alike(self.fault(["ab", "bb"], ["ba", "ab"], "a", "b"), ("spread", ("a", "a", "b")))
        self.check_alike(self.fault(["ab", "bb"], ["bb", "bb"], "a", "b"), ("gone", ("a",)))
        self.check_alike(self.fault(["ab", "bb"], ["aa", "aa"], "a", "b"), ("one", ("b",)))

    def test_greatest(self):
        grades = ["n", "e", "g"]
        joins = [["n", "e", "g"], ["e", "e", "g"], ["g", "g", "g"]]
        products = [["n", "n", "n"], ["n", "e", "g"], ["n", "g", "g"]]
        scale = TableScale(grades, joins, products, none="n", nearest="e")
        self.check_alike(first_fault(scale), ("greatest", ("g",)))

    def test_the_first_one_of_several(self):
        # The products have faults of their own, which come later.
        self.check_alike(self.fault(["ba", "bb"], ["ba", "bb"], "a", "a"), ("join turned", ("a", "b")))
        self.check_alike(self.fault(["ba", "aa"], ["ba", "bb"], "a", "a"), ("join joined", ("a", "a", "b")))

    def test_all_tables_of_two_grades(self):
        rows = tuples("xy", 2)
        tables = tuples(rows, 2)
        found = {}
        for joins in tables:
            for products in tables:
                for none, nearest in rows:
                    scale = TableScale(["x", "y"], joins, products, none=none, nearest=nearest)
                    self.check_alike(first_fault(scale), oracle(scale))
                    found[(first_fault(scale) or (None,))[0]] = True
        self.assertEqual(len(found), 10)

    def test_lawful_scales_with_one_entry_changed(self):
        for scale in (CostScale(2), StopScale(2), LevelScale(3), diamond()):
            grades, joins, products, none, nearest = table_of(scale)
            for rows in (joins, products):
                for i, j in tuples(range(len(grades)), 2):
                    for grade in grades:
                        elder, rows[i][j] = rows[i][j], grade
                        changed = TableScale(grades, joins, products, none=none, nearest=nearest)
                        rows[i][j] = elder
                        self.check_alike(first_fault(changed), oracle(changed))

    def test_grades_in_the_order_of_the_scale(self):
        # The scale's order is not that of the strings.
        scale = TableScale(["z", "a"], [["z", "z"], ["a", "a"]], [["z", "z"], ["z", "a"]], none="z", nearest="a")
        self.check_alike(first_fault(scale), ("join turned", ("z", "a")))
        self.check_alike(first_fault(scale), oracle(scale))


if __name__ == "__main__":
    unittest.main()
