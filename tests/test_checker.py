import copy
import unittest

from helpers import as_table
from made_terms import Maker, checking_scales
from plain_check import INT, PlainChecker, told, told_error, told_tree
from usescale.checker import check
from usescale.derivations import Derivation, accepts
from usescale.errors import KindClash, NameMissing, NoBound, NoTurns, Overuse, UsescaleError
from usescale.families import CutScale, LevelScale, PairScale, RelationScale, SpanScale, SubsetScale, TurnedScale
from usescale.reader import read_kind, read_term
from usescale.tallies import ExactTally, LeastTally, MostTally
from usescale.usages import Usage
from usescale.writer import write_kind, write_term

UP = CutScale(2, order="up")


def found(scale, text, **context):
    return check(scale, read_term(text), {name: read_kind(context[name]) for name in context})


def nested(node):
    """A derivation as text: its usage and its kind, its grade and its turns where it has any."""
    words = f"{node.usage} | {write_kind(node.kind)}"
    if node.grade:
        words += f" | {node.grade}"
    return words if node.turns is None else f"{words} | {node.turns}"


class RuleTest(unittest.TestCase):
    def finds(self, scale, text, wanted, **context):
        """The derivation is written as wanted, its parts are those of the term, and it is accepted."""
        derivation = found(scale, text, **context)
        self.assertIsInstance(derivation, Derivation)
        self.assertEqual(nested(derivation), wanted)
        self.assertEqual(write_term(derivation.term), text)
        self.assertIsInstance(derivation.usage, Usage)
        self.assertIsInstance(derivation.parts, list)
        self.assertIs(accepts(scale, derivation, {name: read_kind(context[name]) for name in context}), True)
        return derivation

    def test_integers_and_names(self):
        self.finds(ExactTally(), "7", " | int")
        self.finds(ExactTally(), "a", "a:1 | int", a="int")
        self.finds(LevelScale(4), "a", "a:3 | (box 2 int)", a="(box 2 int)")
        self.finds(CutScale(0), "a", " | int", a="int")

    def test_arithmetic(self):
        for word in ("add", "sub", "mul"):
            node = self.finds(ExactTally(), f"({word} a ({word} a b))", "a:2 b:1 | int", a="int", b="int")
            self.assertEqual([nested(part) for part in node.parts], ["a:1 | int", "a:1 b:1 | int"])
            self.assertEqual([part.term for part in node.parts[1].parts], [("name", "a"), ("name", "b")])
        self.finds(CutScale(0, period=2), "(add a a)", " | int", a="int")

    def test_functions(self):
        node = self.finds(MostTally(), "(fn x 3 int (add x (add x a)))", "a:1 | (fun 3 int int) | 3", a="int")
        self.assertEqual([nested(part) for part in node.parts], ["a:1 x:2 | int"])
        self.finds(MostTally(), "(fn x 0 (box 1 int) 5)", " | (fun 0 (box 1 int) int) | 0")
        self.finds(MostTally(), "(fn a 1 int a)", " | (fun 1 int int) | 1", a="(pair int int)")

    def test_calls(self):
        node = self.finds(ExactTally(), "(call f (add a a))", "a:6 f:1 | (box 0 int) | 3",
                          f="(fun 3 int (box 0 int))", a="int")
        self.assertEqual([nested(part) for part in node.parts], ["f:1 | (fun 3 int (box 0 int))", "a:2 | int"])
        self.finds(ExactTally(), "(call (fn x 2 int (add x (add x a))) a)", "a:3 | int | 2", a="int")
        self.finds(ExactTally(), "(call f a)", "f:1 | int | 0", f="(fun 0 int int)", a="int")

    def test_pairs(self):
        self.finds(ExactTally(), "(pair a (pair a 1))", "a:2 | (pair int (pair int int))", a="int")
        node = self.finds(ExactTally(), "(split x y p (pair y (pair x a)))", "a:1 p:1 | (pair int (pair int int))",
                          p="(pair int int)", a="int")
        self.assertEqual(nested(node.parts[1]), "a:1 x:1 y:1 | (pair int (pair int int))")
        self.finds(MostTally(), "(split x y p a)", "a:1 p:1 | int", p="(pair int int)", a="int")
        self.finds(MostTally(), "(split x y (pair a b) (pair y x))", "a:1 b:1 | (pair (box 2 int) int)",
                   a="int", b="(box 2 int)")

    def test_choices(self):
        self.finds(ExactTally(), "(left (box 1 int) a)", "a:1 | (either int (box 1 int))", a="int")
        self.finds(ExactTally(), "(right (box 1 int) a)", "a:1 | (either (box 1 int) int)", a="int")
        node = self.finds(MostTally(), "(case e x (add x (add a a)) y (unbox z y (add a b)))",
                          "a:2 b:1 e:1 | int", e="(either int (box 1 int))", a="int", b="int")
        self.assertEqual([nested(part) for part in node.parts],
                         ["e:1 | (either int (box 1 int))", "a:2 x:1 | int", "a:1 b:1 y:1 | int | 1"])
        self.finds(MostTally(), "(case e x y y x)", "e:1 x:1 y:1 | int", e="(either int int)", x="int", y="int")

    def test_boxes(self):
        self.finds(ExactTally(), "(box 3 (add a (add a b)))", "a:6 b:3 | (box 3 int) | 3", a="int", b="int")
        self.finds(ExactTally(), "(box 0 a)", " | (box 0 int) | 0", a="int")
        node = self.finds(ExactTally(), "(unbox x e (add x (add x a)))", "a:1 e:1 | int | 2", e="(box 2 int)", a="int")
        self.assertEqual([nested(part) for part in node.parts], ["e:1 | (box 2 int)", "a:1 x:2 | int"])

    def test_tests(self):
        node = self.finds(MostTally(), "(test (add a a) (add a b) (mul b b))", "a:3 b:2 | int", a="int", b="int")
        self.assertEqual([nested(part) for part in node.parts], ["a:2 | int", "a:1 b:1 | int", "b:2 | int"])
        self.finds(LeastTally(), "(test a (add a b) (mul b b))", "a:1 b:1 | int", a="int", b="int")
        self.finds(ExactTally(), "(test a (add b b) (mul b b))", "a:1 b:2 | int", a="int", b="int")

    def test_repetitions(self):
        node = self.finds(MostTally(), "(repeat (add a a) x 1 (add b c) (add x 1))", "a:2 b:1 c:1 | int | 1 | b:1 c:1",
                          a="int", b="int", c="int")
        self.assertEqual([nested(part) for part in node.parts], ["a:2 | int", "b:1 c:1 | int", "x:1 | int"])
        self.finds(MostTally(), "(repeat 3 x 0 (add a a) (add a (add b (add b b))))", "a:2 b:3 | int | 0 | a:2 b:3",
                   a="int", b="int")
        self.finds(ExactTally(), "(repeat a x 1 a (add x 1))", "a:2 | int | 1 | a:1", a="int")
        self.finds(UP, "(repeat 3 x many a (add x (add x b)))", "a:many b:many | int | many | a:many b:many",
                   a="int", b="int")
        self.finds(UP, "(repeat 3 x 1 a (add x b))", "a:1 b:many | int | 1 | a:1 b:many", a="int", b="int")
        self.finds(LeastTally(), "(repeat 3 x 2 a (add x (add x b)))", "a:1 | int | 2 | a:1", a="int", b="int")
        self.finds(UP, "(repeat 3 x 1 (box many a) x)", "a:many | (box many int) | 1 | a:many", a="int")

    def test_as(self):
        node = self.finds(UP, "(as (fun many (box many int) int) (fn x 1 (box 1 int) (unbox y x (add y a))))",
                          "a:1 | (fun many (box many int) int)", a="int")
        self.assertEqual([nested(part) for part in node.parts], ["a:1 | (fun 1 (box 1 int) int) | 1"])
        self.finds(UP, "(as (box 0 int) a)", "a:1 | (box 0 int)", a="(box many int)")

    def test_inner_binders_hide_outer_ones(self):
        scale = MostTally()
        self.finds(scale, "(fn x 6 int (call (fn x 2 (box 3 int) (pair x x)) (box 3 x)))",
                   " | (fun 6 int (pair (box 3 int) (box 3 int))) | 6")
        self.finds(scale, "(split x y x (add x y))", "x:1 | int", x="(pair int int)")
        self.finds(scale, "(case x x x x x)", "x:1 | int", x="(either int int)")
        self.finds(scale, "(unbox x x (add x x))", "x:1 | int | 2", x="(box 2 int)")
        self.finds(scale, "(repeat x x 1 x x)", "x:2 | int | 1 | x:1", x="int")
        self.finds(scale, "(fn x 0 int (fn x 1 int x))", " | (fun 0 int (fun 1 int int)) | 0")

    def test_the_grade_stands_on_the_left(self):
        scale = RelationScale(2)
        up, down = "0100", "0010"
        for outer, inner, product in ((up, down, "1000"), (down, up, "0001"), (up, up, None)):
            wanted = f"a:{product} " if product else " "
            self.finds(scale, f"(box {outer} (box {inner} a))", f"{wanted}| (box {outer} (box {inner} int)) | {outer}",
                       a="int")
            usage = f"a:{product} f:1001" if product else "f:1001"
            self.finds(scale, f"(call f (box {inner} a))", f"{usage} | int | {outer}",
                       f=f"(fun {outer} (box {inner} int) int)", a="int")
        # With the factor on the right the turns would use 0011.
        self.finds(scale, f"(repeat 1 x {up} (unbox q (box {down} a) 1) (unbox q (box {up} x) 1))",
                   f"a:1010 | int | {up} | a:1010", a="int")

    def test_scales_of_all_families(self):
        text = "(call (fn x {0} int (add x (mul x a))) (test a b a))"
        for scale, grade, usage in (
                (as_table(CutScale(2, order="up")), "g2", "a:g2 b:g2"), (CutScale(1, period=2), "2", None),
                (CutScale(2, order="down"), "many", "a:many"), (LevelScale(3), "2", "a:2 b:2"),
                (SubsetScale(2), "11", "a:11 b:11"), (SpanScale(2), "manytomany", "a:manytomany b:0tomany"),
                (RelationScale(2), "1001", "a:1001 b:1001"), (TurnedScale(LevelScale(3)), "2", "a:2"),
                (TurnedScale(SpanScale(1)), "manytomany", None), (MostTally(), "2", "a:5 b:2"),
                (LeastTally(), "2", "a:3"), (PairScale(UP, LeastTally()), "<many/2>", "a:<many/3> b:<many/0>"),
                (PairScale(LevelScale(2), MostTally()), "<1/2>", "a:<1/5> b:<1/2>")):
            term = text.format(grade)
            if usage is None:
                with self.assertRaises(NoBound):
                    found(scale, term, a="int", b="int")
                continue
            self.finds(scale, term, f"{usage} | int | {grade}", a="int", b="int")

    def test_gaps(self):
        self.finds(ExactTally(), "(call (fn x ? int (add x (add x x))) (add a a))", "a:6 | int | 3", a="int")
        node = self.finds(ExactTally(), "(call (fn x ? int 1) a)", " | int | 0", a="int")
        self.assertEqual((node.parts[0].grade, node.parts[0].kind), ("0", ("fun", "0", INT, INT)))
        node = self.finds(UP, "(as (fun many int int) (fn x ? int x))", " | (fun many int int)")
        self.assertEqual((node.parts[0].grade, node.parts[0].kind), ("1", ("fun", "1", INT, INT)))
        self.finds(UP, "(repeat 3 x ? a (add x (add x b)))", "a:many b:many | int | many | a:many b:many",
                   a="int", b="int")
        self.finds(ExactTally(), "(repeat 3 x ? a (add x 1))", "a:1 | int | 1 | a:1", a="int")
        self.finds(MostTally(), "(repeat 3 x ? a 7)", "a:1 | int | 0 | a:1", a="int")
        node = self.finds(ExactTally(), "(call (call (fn x ? int (fn y 1 int (add x y))) a) a)", "a:2 | int | 1",
                          a="int")
        self.assertEqual(node.parts[0].grade, "1")
        for text, error in (("(as (fun 0 int int) (fn x ? int x))", KindClash),
                            ("(repeat 3 x ? a (add x x))", NoTurns)):
            with self.assertRaises(error):
                found(MostTally(), text, a="int")

    def test_a_function_is_called_for_its_grade_and_not_for_its_use(self):
        self.finds(MostTally(), "(call (fn x 5 int x) a)", "a:5 | int | 5", a="int")
        self.finds(ExactTally(), "(call (as (fun 1 int int) (fn x ? int x)) a)", "a:1 | int | 1", a="int")

    def test_usages_of_parts_go_on_apart(self):
        for text in ("(left int a)", "(right int a)", "(as int a)", "(add a 1)", "(repeat 1 x 1 a x)", "(box 1 a)",
                     "(test 1 a a)", "(fn x 1 int (mul x a))"):
            node = found(MostTally(), text, a="int")
            for part in node.parts:
                part.usage["a"] = part.usage["q"] = MostTallyGrade(9)
            self.assertEqual(told(node.usage), {"a": "1"})
            if node.turns is not None:
                node.turns["a"] = MostTallyGrade(8)
                self.assertEqual(told(node.usage), {"a": "1"})

    def test_arguments_stay_as_they_are(self):
        context = {"a": INT, "f": ("fun", "2", INT, INT)}
        before = copy.deepcopy(context)
        check(MostTally(), read_term("(call (fn b 2 int (call f b)) (split a b (pair a 1) (add a b)))"), context)
        self.assertEqual(context, before)
        self.assertEqual(nested(check(MostTally(), ("int", 3))), " | int")
        self.assertEqual(nested(check(MostTally(), ("int", 3), None)), " | int")
        self.assertEqual(nested(check(MostTally(), ("name", "a"), context=context)), "a:1 | int")

    def test_deep_terms(self):
        term = ("name", "a")
        for _ in range(110):
            term = ("add", term, ("int", 1))
        self.assertEqual(nested(check(ExactTally(), term, {"a": INT})), "a:1 | int")
        term, kind = ("name", "a"), "int"
        for _ in range(60):
            term, kind = ("left", INT, term), f"(either {kind} int)"
        for _ in range(60):
            term = ("case", term, "x", ("name", "x"), "y", ("gone", INT))
        with self.assertRaises(UsescaleError):
            check(ExactTally(), term, {"a": INT})


def MostTallyGrade(number):
    usage = Usage.one_of(MostTally(), "a")
    return number * usage["a"]


class RandomTest(unittest.TestCase):
    def outcome(self, scale, act):
        try:
            return told_tree(scale, act())
        except (UsescaleError, NameMissing) as error:
            return told_error(error)

    def test_random_terms(self):
        counts, words = {}, set()
        for scale in checking_scales():
            for seed in range(120):
                maker = Maker(scale, seed)
                context = {"a": INT, "b": maker.kind(2), "c": maker.kind(1)}
                term = maker.term(maker.kind(2), context, 4)
                if seed % 3 == 0:
                    term = maker.broken(term)
                wanted = self.outcome(scale, lambda: PlainChecker(scale).check(term, context))
                self.assertEqual(self.outcome(scale, lambda: check(scale, term, context)), wanted, (scale.label, term))
                sort = wanted[0] if isinstance(wanted[0], str) and wanted[0][0].isupper() else "accepted"
                counts[sort] = counts.get(sort, 0) + 1
                if sort == "accepted":
                    words |= {node[0] for node in all_terms(wanted)}
        self.assertGreater(counts["accepted"], 500)
        self.assertLessEqual({"Overuse", "UnboundName", "UnknownGrade", "KindClash", "GoneTerm", "NoTurns", "NoBound",
                              "WrongForm"}, set(counts))
        self.assertEqual(len(words), 17)


def all_terms(tree):
    return [tree[0]] + [term for part in tree[5] for term in all_terms(part)]


if __name__ == "__main__":
    unittest.main()
