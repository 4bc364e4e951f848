import unittest

from plain_check import INT, told_error
from usescale.checker import check
from usescale.errors import CheckError, NameMissing, UsescaleError
from usescale.families import CutScale, LevelScale, PairScale, RelationScale
from usescale.reader import read_kind, read_term
from usescale.tallies import ExactTally, LeastTally, MostTally

UP = CutScale(2, order="up")
KINDS = {"a": "int", "b": "int", "f": "(fun 1 int int)", "p": "(pair int (box 1 int))", "e": "(either int (box 1 int))",
         "d": "(box 2 int)"}


def error_of(scale, term, **kinds):
    """The error of a check, as a tuple of its name and its fields."""
    told = {**KINDS, **kinds}
    context = {name: read_kind(told[name]) for name in told}
    try:
        check(scale, read_term(term) if isinstance(term, str) else term, context)
    except (UsescaleError, NameMissing) as error:
        return told_error(error)
    return None


def clash(wanted, found):
    return "KindClash", {"wanted": read_kind(wanted), "found": read_kind(found)}


def form(word, found):
    return "WrongForm", {"word": word, "found": read_kind(found)}


def overuse(name, used, allowed):
    return "Overuse", {"name": name, "used": used, "allowed": allowed}


def grade(name):
    return "UnknownGrade", {"name": name}


def unbound(name):
    return "UnboundName", {"name": name}


class ErrorCase(unittest.TestCase):
    def raises(self, scale, *pairs, **kinds):
        for text, wanted in pairs:
            self.assertEqual(error_of(scale, text, **kinds), wanted, text)


class EachErrorTest(ErrorCase):
    def test_unbound_names(self):
        self.raises(ExactTally(), ("q", unbound("q")), ("(fn x 1 int (add x q))", unbound("q")),
                    ("(add (fn x 1 int x) 1)", clash("int", "(fun 1 int int)")),
                    ("(unbox x d (add y x))", unbound("y")),
                    ("(unbox x x 1)", unbound("x")), ("(split x y x 1)", unbound("x")),
                    ("(split x y y 1)", unbound("y")), ("(case x x 1 y 1)", unbound("x")),
                    ("(case e x y y 1)", unbound("y")), ("(case e x x y x)", unbound("x")),
                    ("(repeat x x 0 1 1)", unbound("x")), ("(repeat 1 x 0 x 1)", unbound("x")),
                    ("(call (fn x 1 int x) x)", unbound("x")))
        with self.assertRaises(NameMissing):
            check(ExactTally(), ("name", "a"))

    def test_kinds_of_operands(self):
        for word in ("add", "sub", "mul"):
            self.raises(ExactTally(), (f"({word} d 1)", clash("int", "(box 2 int)")),
                        (f"({word} 1 p)", clash("int", KINDS["p"])))
        self.raises(MostTally(), ("(test f 1 2)", clash("int", KINDS["f"])),
                    ("(repeat e x 1 2 3)", clash("int", KINDS["e"])))

    def test_forms(self):
        self.raises(ExactTally(), ("(call 1 2)", form("fun", "int")), ("(call p 2)", form("fun", KINDS["p"])),
                    ("(split x y 1 2)", form("pair", "int")), ("(split x y e 2)", form("pair", KINDS["e"])),
                    ("(case 1 x 2 y 3)", form("either", "int")), ("(case p x 2 y 3)", form("either", KINDS["p"])),
                    ("(unbox x 1 2)", form("box", "int")), ("(unbox x f 2)", form("box", KINDS["f"])))

    def test_arguments_and_branches(self):
        self.raises(MostTally(), ("(call f p)", clash("int", KINDS["p"])),
                    ("(call (fn x 1 (box 1 int) 1) d)", clash("(box 1 int)", "(box 2 int)")),
                    ("(test 1 a d)", clash("int", "(box 2 int)")), ("(test 1 d a)", clash("(box 2 int)", "int")),
                    ("(case e x x y y)", clash("int", "(box 1 int)")),
                    ("(case e x d y 1)", clash("(box 2 int)", "int")),
                    ("(repeat 1 x 1 a d)", clash("int", "(box 2 int)")),
                    ("(repeat 1 x 1 d (box 1 a))", clash("(box 2 int)", "(box 1 int)")))

    def test_as(self):
        self.raises(UP, ("(as (box many int) (box 1 a))", clash("(box many int)", "(box 1 int)")),
                    ("(as int p)", clash("int", KINDS["p"])),
                    ("(as (fun 0 int int) f)", clash("(fun 0 int int)", KINDS["f"])),
                    ("(as (fun many int int) f)", None), ("(as (box 1 int) (box many a))", None))

    def test_overuse(self):
        self.raises(ExactTally(), ("(fn x 1 int (add x x))", overuse("x", "2", "1")),
                    ("(fn x 1 int 3)", overuse("x", "0", "1")), ("(split x y p (unbox y y y))", overuse("x", "0", "1")),
                    ("(split x y p (pair x (pair x y)))", overuse("x", "2", "1")),
                    ("(split x y p x)", overuse("y", "0", "1")), ("(case e x 1 y 1)", overuse("x", "0", "1")),
                    ("(case e x x y 1)", overuse("y", "0", "1")), ("(unbox x d x)", overuse("x", "1", "2")),
                    ("(unbox x d (add x (add x x)))", overuse("x", "3", "2")),
                    ("(repeat 1 x 1 2 3)", overuse("x", "0", "1")),
                    ("(repeat 1 x 0 2 (add x x))", overuse("x", "2", "0")))
        self.raises(LeastTally(), ("(fn x 1 int 3)", overuse("x", "0", "1")), ("(fn x 1 int (add x x))", None))
        self.raises(PairScale(ExactTally(), MostTally()),
                    ("(fn x <2/1> int (add x x))", overuse("x", "<2/2>", "<2/1>")))
        self.raises(RelationScale(2), ("(fn x 0110 int x)", overuse("x", "1001", "0110")), d="(box 1111 int)")

    def test_bounds_and_turns(self):
        self.raises(ExactTally(), ("(test a b 1)", ("NoBound", {"name": "b", "first": "1", "second": "0"})),
                    ("(test 1 a (add b (add a a)))", ("NoBound", {"name": "a", "first": "1", "second": "2"})),
                    ("(case e x (add x b) y (unbox y y y))", ("NoBound", {"name": "b", "first": "1", "second": "0"})),
                    ("(case e x x y (unbox y y (add y a)))", ("NoBound", {"name": "a", "first": "0", "second": "1"})))
        self.raises(MostTally(), ("(repeat 1 x 1 b (add x (add a b)))", ("NoTurns", {"name": "a"})),
                    ("(repeat 1 x 1 (add a b) (add x b))", ("NoTurns", {"name": "b"})),
                    ("(repeat 1 x 2 (add b a) (add x x))", ("NoTurns", {"name": "a"})),
                    ("(repeat 1 x ? b (add x x))", ("NoTurns", {"name": "b"})), ("(repeat b x 2 1 (add x x))", None),
                    ("(repeat 1 x 1 2 (add x x))", overuse("x", "2", "1")))

    def test_the_bound_name_itself_has_no_turns(self):
        self.raises(MostTally(), ("(repeat 1 b 2 3 (add b b))", None),
                    ("(repeat 1 b 2 b (add b b))", ("NoTurns", {"name": "b"})))

    def test_grades(self):
        for text, name in (
                ("(fn x zz int x)", "zz"), ("(fn x 1 (box zz int) 1)", "zz"), ("(left (box zz int) 1)", "zz"),
                ("(right (fun zz int int) 1)", "zz"), ("(box zz 1)", "zz"), ("(repeat 1 x zz 1 1)", "zz"),
                ("(as (pair (box 1 int) (box zz int)) 1)", "zz"), ("(box many 1)", "many"),
                ("(box 01 1)", "01"), ("(box <0/0> 1)", "<0/0>")):
            self.raises(ExactTally(), (text, grade(name)))
        self.raises(UP, ("(box 2 1)", grade("2")), ("(box 1 1)", None))

    def test_a_gap_elsewhere_is_an_unknown_grade(self):
        for term in (("box", "?", ("int", 1)), ("left", ("box", "?", INT), ("int", 1)),
                     ("fn", "x", "?", ("fun", "?", INT, INT), ("int", 1)),
                     ("as", ("fun", "?", INT, INT), ("name", "f"))):
            outer = ("call", term, ("int", 1)) if term[0] == "fn" else term
            self.raises(ExactTally(), (outer, grade("?")))

    def test_splits_that_bind_one_name_twice(self):
        self.raises(ExactTally(), ("(split x x p 1)", ("TwiceBound", {"name": "x"})),
                    ("(split x x q 1)", ("TwiceBound", {"name": "x"})))

    def test_gone_terms(self):
        self.raises(ExactTally(), ("(gone int)", ("GoneTerm", {})), ("(add 1 (gone int))", ("GoneTerm", {})),
                    ("(gone (box zz int))", ("GoneTerm", {})), ("(box 0 (gone int))", ("GoneTerm", {})))

    def test_loose_gaps(self):
        loose = "(fn x ? int x)"
        wanted = ("LooseGap", {"name": "x"})
        for text in (loose, f"(pair {loose} 1)", f"(pair 1 {loose})", f"(call f {loose})", f"(box 1 {loose})",
                     f"(left int {loose})", f"(fn y 0 int {loose})", f"(call (fn y ? int {loose}) 1)",
                     f"(split y z p {loose})", f"(unbox y d {loose})", f"(test 1 {loose} {loose})",
                     f"(repeat 1 y 1 {loose} y)", f"(as (pair int int) (pair 1 {loose}))",
                     f"(call (as (fun 1 int int) (test 1 {loose} f)) 1)", f"(add {loose} 1)", f"(test {loose} 1 1)",
                     f"(case {loose} y 1 z 1)", f"(right int {loose})", f"(split y z {loose} 1)",
                     f"(call (test 1 {loose} f) 1)", f"(unbox y {loose} 1)", f"(repeat {loose} y 1 1 1)"):
            self.raises(MostTally(), (text, wanted))
        self.raises(MostTally(), (f"(call {loose} 1)", None), (f"(as (fun 2 int int) {loose})", None))

    def test_which_errors_are_check_errors(self):
        for text, expected in (("(gone int)", True), ("(fn x ? int x)", True), ("(split x x p 1)", True),
                               ("(add d 1)", True), ("(call 1 1)", True), ("(fn x 0 int x)", True), ("q", False),
                               ("(box zz 1)", False), ("(test 1 a b)", False)):
            context = {name: read_kind(KINDS[name]) for name in KINDS}
            with self.assertRaises((UsescaleError, NameMissing)) as caught:
                check(ExactTally(), read_term(text), context)
            self.assertIs(isinstance(caught.exception, CheckError), expected)


class OrderTest(ErrorCase):
    """Where several errors are due at once, the one that comes first in the order of point 24 is raised."""

    def test_the_term_itself(self):
        self.raises(ExactTally(), ("(gone (box zz int))", ("GoneTerm", {})),
                    ("(fn x ? (box zz int) q)", ("LooseGap", {"name": "x"})),
                    ("(fn x yy (fun zz int int) q)", grade("yy")),
                    ("(fn x 1 (fun yy (box zz int) int) q)", grade("yy")),
                    ("(fn x 1 (fun 1 (box yy int) (box zz int)) q)", grade("yy")),
                    ("(fn x 1 (pair (box yy int) (fun zz int int)) q)", grade("yy")),
                    ("(fn x 1 (pair int (either int (box zz int))) q)", grade("zz")),
                    ("(repeat q x zz (gone int) 1)", grade("zz")), ("(box yy (box zz q))", grade("yy")),
                    ("(left (box yy (box zz int)) q)", grade("yy")), ("(as (box zz int) (gone int))", grade("zz")),
                    ("(split x x (gone int) q)", ("TwiceBound", {"name": "x"})))

    def test_the_term_ahead_of_its_parts(self):
        self.raises(ExactTally(), ("(add (box zz 1) (gone int))", grade("zz")),
                    ("(add (gone int) (box zz 1))", ("GoneTerm", {})), ("(box zz (gone int))", grade("zz")),
                    ("(call (fn x ? int (gone int)) q)", ("GoneTerm", {})),
                    ("(pair (fn x ? int q) (gone int))", ("LooseGap", {"name": "x"})))

    def test_parts_from_left_to_right_each_completely(self):
        for word in ("add", "sub", "mul"):
            self.raises(ExactTally(), (f"({word} d q)", clash("int", "(box 2 int)")), (f"({word} q d)", unbound("q")),
                        (f"({word} (fn x 1 int 3) q)", overuse("x", "0", "1")),
                        (f"({word} 1 (add d q))", clash("int", "(box 2 int)")))
        self.raises(ExactTally(), ("(call 1 q)", form("fun", "int")), ("(call q 1)", unbound("q")),
                    ("(call f (add q d))", unbound("q")), ("(split x y 1 q)", form("pair", "int")),
                    ("(split x y q z)", unbound("q")), ("(case 1 x q y r)", form("either", "int")),
                    ("(case e x q y r)", unbound("q")), ("(unbox x 1 q)", form("box", "int")),
                    ("(test d q r)", clash("int", "(box 2 int)")), ("(test 1 q r)", unbound("q")),
                    ("(test 1 a r)", unbound("r")), ("(repeat d x 1 q r)", clash("int", "(box 2 int)")),
                    ("(repeat 1 x 1 q r)", unbound("q")), ("(repeat 1 x 1 1 r)", unbound("r")),
                    ("(pair q (gone int))", unbound("q")), ("(pair 1 (gone int))", ("GoneTerm", {})))

    def test_the_kind_ahead_of_the_binder(self):
        self.raises(ExactTally(), ("(case e x 1 y d)", overuse("x", "0", "1")),
                    ("(case e x x y d)", clash("int", "(box 2 int)")), ("(case e x x y 1)", overuse("y", "0", "1")),
                    ("(case e x 1 y q)", overuse("x", "0", "1")), ("(repeat 1 x 1 1 d)", clash("int", "(box 2 int)")),
                    ("(repeat 1 x 1 1 1)", overuse("x", "0", "1")))

    def test_x_of_a_split_ahead_of_y(self):
        self.raises(ExactTally(), ("(split x y p 1)", overuse("x", "0", "1")),
                    ("(split y x p 1)", overuse("y", "0", "1")),
                    ("(split x y p (pair x 1))", overuse("y", "0", "1")))

    def test_binders_ahead_of_bounds_and_turns(self):
        self.raises(ExactTally(), ("(case e x (add x a) y b)", overuse("y", "0", "1")),
                    ("(case e x (add x b) y (unbox y y (add y a)))",
                     ("NoBound", {"name": "a", "first": "0", "second": "1"})),
                    ("(repeat 1 x 2 a (add x (add x (add x a))))", overuse("x", "3", "2")),
                    ("(repeat 1 x 2 a (add x x))", ("NoTurns", {"name": "a"})),
                    ("(test 1 a d)", clash("int", "(box 2 int)")))

    def test_inner_errors_ahead_of_outer_ones(self):
        self.raises(ExactTally(), ("(fn x 1 int (fn y 1 int 3))", overuse("y", "0", "1")),
                    ("(fn x 1 int (fn y 0 int 3))", overuse("x", "0", "1")),
                    ("(test 1 (test 1 a b) (add a (add a b)))",
                     ("NoBound", {"name": "a", "first": "1", "second": "0"})),
                    ("(add (fn x 1 int 3) 1)", overuse("x", "0", "1")),
                    ("(as int (fn x 1 int 3))", overuse("x", "0", "1")),
                    ("(as int (fn x ? int x))", clash("int", "(fun 1 int int)")))

    def test_names_of_bounds_and_turns_in_ascending_order(self):
        self.raises(LevelScale(2), ("(test 1 b a)", None), d="(box 1 int)")
        kinds = {"x10": "int", "x9": "int"}
        self.raises(ExactTally(),
                    ("(test 1 (add x9 x10) 1)", ("NoBound", {"name": "x10", "first": "1", "second": "0"})),
                    ("(test 1 x9 x10)", ("NoBound", {"name": "x10", "first": "0", "second": "1"})), **kinds)
        self.raises(MostTally(), ("(repeat 1 x 2 (add x9 x10) (add x x))", ("NoTurns", {"name": "x10"})),
                    ("(repeat 1 x 1 1 (add x (add x9 x10)))", ("NoTurns", {"name": "x10"})),
                    ("(repeat 1 x 2 x9 (add x (add x x10)))", ("NoTurns", {"name": "x10"})), **kinds)


if __name__ == "__main__":
    unittest.main()
