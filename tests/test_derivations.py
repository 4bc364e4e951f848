import copy
import unittest

from made_terms import Maker, checking_scales
from plain_accepts import plain_accepts
from plain_check import INT, told, told_tree
from usescale.checker import check
from usescale.derivations import Derivation, accepts, filled
from usescale.errors import NameMissing, UsescaleError
from usescale.families import CutScale, LevelScale
from usescale.grades import Grade
from usescale.reader import read_kind, read_term
from usescale.rules import turns_by_rule, usage_by_rule
from usescale.tallies import ExactTally, LeastTally, MostTally
from usescale.usages import Usage
from usescale.writer import write_term

MOST = MostTally()
KINDS = {"a": INT, "b": INT, "f": read_kind("(fun 2 int int)"), "p": read_kind("(pair int int)"),
         "e": read_kind("(either int int)"), "d": read_kind("(box 2 int)")}


def made(scale=MOST, **grades):
    usage = Usage(scale)
    for name, grade in grades.items():
        usage[name] = Grade.named(scale, grade)
    return usage


def remade(node, **changes):
    """A copy of a derivation with other attributes."""
    told = {"term": node.term, "usage": node.usage.copy(), "kind": node.kind, "parts": [remade(p) for p in node.parts],
            "grade": node.grade, "turns": None if node.turns is None else node.turns.copy()}
    told.update(changes)
    return Derivation(told["term"], told["usage"], told["kind"], told["parts"], grade=told["grade"],
                      turns=told["turns"])


def changed(node, path, **changes):
    """A copy of a derivation in which the node at a path has other attributes."""
    if not path:
        return remade(node, **changes)
    parts = [remade(part) for part in node.parts]
    parts[path[0]] = changed(parts[path[0]], path[1:], **changes)
    return remade(node, parts=parts)


def paths(node):
    return [()] + [(at,) + path for at, part in enumerate(node.parts) for path in paths(part)]


def at_path(node, path):
    return at_path(node.parts[path[0]], path[1:]) if path else node


def found(text, scale=MOST):
    return check(scale, read_term(text), KINDS)


class DerivationTest(unittest.TestCase):
    def test_attributes(self):
        usage, parts = made(a="1"), []
        node = Derivation(("name", "a"), usage, INT, parts)
        self.assertEqual((node.term, node.usage, node.kind, node.parts, node.grade, node.turns),
                         (("name", "a"), usage, INT, [], "", None))
        parts.append(node)
        self.assertEqual(node.parts, [])
        turns = made(b="2")
        outer = Derivation(("box", "1", ("name", "a")), usage, ("box", "1", INT), parts, grade="1", turns=turns)
        self.assertEqual((outer.parts, outer.grade, outer.turns), ([node], "1", turns))
        parts.clear()
        self.assertEqual(outer.parts, [node])


class FilledTest(unittest.TestCase):
    def test_every_gap_gets_its_grade(self):
        for text, wanted in (
                ("(call (fn x ? int (add x x)) a)", "(call (fn x 2 int (add x x)) a)"),
                ("(as (fun 5 int int) (fn x ? int (add x x)))", "(as (fun 5 int int) (fn x 2 int (add x x)))"),
                ("(repeat 3 x ? a 5)", "(repeat 3 x 0 a 5)"),
                ("(call (fn x ? int (call (fn y ? int (add x y)) x)) (repeat 1 z ? a z))",
                 "(call (fn x 2 int (call (fn y 1 int (add x y)) x)) (repeat 1 z 1 a z))"),
                ("(pair (call (fn x ? int 3) a) (test a (call (fn x ? int x) 1) (repeat 1 x ? 2 (add x x))))",
                 "(pair (call (fn x 0 int 3) a) (test a (call (fn x 1 int x) 1) (repeat 1 x 2 2 (add x x))))")):
            derivation = found(text)
            before = told_tree(MOST, derivation)
            self.assertEqual(write_term(filled(derivation)), wanted)
            self.assertEqual(told_tree(MOST, derivation), before)

    def test_a_term_without_gaps_stays_as_it_is(self):
        for text in ("3", "a", "(fn x 7 int (add x (repeat a y 1 b y)))", "(split x y p (unbox z d (case e u 1 v z)))"):
            self.assertEqual(filled(found(text)), read_term(text))

    def test_a_larger_grade_in_a_gap(self):
        derivation = changed(found("(as (fun 9 int int) (fn x ? int x))"), (0,), grade="5",
                             kind=read_kind("(fun 5 int int)"))
        self.assertEqual(write_term(filled(derivation)), "(as (fun 9 int int) (fn x 5 int x))")

    def test_random_terms(self):
        gaps = 0
        for scale in checking_scales():
            for seed in range(60):
                maker = Maker(scale, seed)
                term = maker.term(maker.kind(2), {"a": INT}, 5)
                try:
                    derivation = check(scale, term, {"a": INT})
                except (UsescaleError, NameMissing):
                    continue
                whole = filled(derivation)
                gaps += whole != term
                self.assertNotIn("?", write_term(whole))
                again = check(scale, whole, {"a": INT})
                self.assertEqual((told(again.usage), again.kind), (told(derivation.usage), derivation.kind))
                self.assertEqual(len(write_term(whole).split()), len(write_term(term).split()))
        self.assertGreater(gaps, 100)


class AcceptsTest(unittest.TestCase):
    def takes(self, derivation, context=None, scale=MOST):
        self.assertIs(accepts(scale, derivation, KINDS if context is None else context), True)
        self.assertIs(plain_accepts(scale, derivation, KINDS if context is None else context), True)

    def refuses(self, derivation, context=None, scale=MOST):
        self.assertIs(accepts(scale, derivation, KINDS if context is None else context), False)
        self.assertIs(plain_accepts(scale, derivation, KINDS if context is None else context), False)

    def test_what_check_returns(self):
        for text in ("a", "3", "(add a b)", "(fn x 2 int x)", "(call f a)", "(call (fn x ? int x) a)", "(pair a a)",
                     "(split x y p (add x a))", "(left (box 0 int) a)", "(right int a)",
                     "(case e x x y a)", "(box 3 a)", "(unbox x d (add x a))", "(test a a b)",
                     "(repeat a x 1 b x)", "(repeat a x 0 b (add 1 a))", "(repeat a x ? b 3)",
                     "(as (fun 9 int int) (fn x ? int x))"):
            self.takes(found(text))
        self.assertIs(accepts(MOST, check(MOST, ("int", 3))), True)
        self.assertIs(accepts(MOST, check(MOST, ("int", 3)), None), True)
        self.assertIs(accepts(MOST, found("a")), False)
        self.assertIs(accepts(MOST, found("a"), context={"a": INT}), True)

    def test_larger_usages(self):
        for text, path in (("3", ()), ("a", ()), ("(add a b)", ()), ("(case e x a y b)", ()), ("(box 0 a)", (0,)),
                           ("(repeat a x 0 b 3)", ()), ("(call (fn x 0 int 1) a)", (1,))):
            derivation = found(text)
            for name in ("a", "b", "q"):
                usage = at_path(derivation, path).usage.copy()
                usage[name] = Grade.named(MOST, "7")
                self.takes(changed(derivation, path, usage=usage))

    def test_larger_usages_of_parts_must_go_on_above(self):
        derivation = found("(add a (mul a b))")
        part = changed(derivation, (1,), usage=made(a="2", b="1"))
        self.refuses(part)
        self.takes(changed(part, (), usage=made(a="3", b="1")))
        derivation = found("(fn x 2 int (add x a))")
        self.takes(changed(derivation, (0,), usage=made(x="2", a="1")))
        self.refuses(changed(derivation, (0,), usage=made(x="3", a="1")))
        derivation = found("(call f a)")
        part = changed(derivation, (1,), usage=made(a="2"))
        self.refuses(changed(part, (), usage=made(f="1", a="3")))
        self.takes(changed(part, (), usage=made(f="1", a="4")))

    def test_smaller_usages(self):
        for text in ("a", "(add a b)", "(add a a)", "(call f a)", "(case e x x y a)", "(test b a 1)", "(box 2 a)",
                     "(repeat b x 0 a 3)", "(fn x 1 int a)", "(unbox x d a)", "(split x y p a)", "(left int a)"):
            derivation = found(text)
            for name in derivation.usage.names():
                self.refuses(changed(derivation, (), usage=derivation.usage.without(name)))

    def test_grades_of_gaps(self):
        derivation = found("(call (fn x ? int (add x x)) a)")
        for grade, wanted in (("2", True), ("3", True), ("9", True), ("1", False), ("0", False), ("zz", False),
                              ("?", False), ("", False)):
            kind = ("fun", grade, INT, INT)
            larger = changed(changed(derivation, (0,), grade=grade, kind=kind), (), grade=grade, usage=made(a="9"))
            (self.takes if wanted else self.refuses)(larger)
            if grade != "2":
                self.refuses(changed(derivation, (0,), grade=grade))
        self.refuses(changed(changed(derivation, (0,), grade="3", kind=("fun", "3", INT, INT)), (), grade="3"))
        derivation = found("(repeat b x ? a (add x 1))")
        self.refuses(changed(derivation, (), grade="2", turns=made(a="5"), usage=made(a="5", b="1")))
        derivation = found("(repeat b x ? a 1)")
        for grade, wanted in (("0", True), ("1", True), ("2", False), ("", False), ("zz", False)):
            (self.takes if wanted else self.refuses)(changed(derivation, (), grade=grade))
        derivation = found("(as (fun 3 int int) (fn x ? int (add x x)))")
        for grade, wanted in (("2", True), ("3", True), ("4", False), ("1", False)):
            part = changed(derivation, (0,), grade=grade, kind=("fun", grade, INT, INT))
            (self.takes if wanted else self.refuses)(part)

    def test_written_grades(self):
        for text, path in (("(call (fn x 2 int x) a)", (0,)), ("(call (fn x 2 int x) a)", ()), ("(box 2 a)", ()),
                           ("(unbox x d x)", ()), ("(repeat a x 1 b x)", ()), ("(call f a)", ()), ("(add a b)", ()),
                           ("a", ()), ("(split x y p 1)", ()), ("(as int a)", ())):
            derivation = found(text)
            for grade in ("", "0", "1", "2", "3", "zz", "?"):
                if grade != at_path(derivation, path).grade:
                    self.refuses(changed(derivation, path, grade=grade))
                    self.refuses(changed(derivation, path, grade=grade, usage=made(a="9", b="9", f="9", d="9", p="9")))

    def test_turns(self):
        derivation = found("(repeat b x 0 a (add b b))")
        self.assertEqual(told(derivation.turns), {"a": "1", "b": "2"})
        large = made(a="9", b="9")
        for turns, wanted in (
                (made(a="1", b="2"), True), (made(a="2", b="2"), True), (made(a="1", b="5", q="1"), False),
                (made(a="1"), False), (made(b="2"), False), (made(), False), (None, False),
                (made(LeastTally(), a="1", b="2"), False)):
            (self.takes if wanted else self.refuses)(changed(derivation, (), turns=turns, usage=large))
        self.takes(changed(derivation, (), turns=made(a="1", b="5", q="1"), usage=made(a="9", b="9", q="1")))
        self.refuses(changed(derivation, (), turns=made(a="2", b="2")))
        derivation = found("(repeat 1 x 2 3 (add x x))")
        self.takes(derivation)
        self.refuses(changed(derivation, (), turns=made(a="1"), usage=large))
        for text in ("a", "3", "(add a b)", "(box 1 a)", "(test a a b)"):
            self.refuses(changed(found(text), (), turns=made()))
        up = CutScale(2, order="up")
        derivation = check(up, read_term("(repeat 1 x 1 a (add x b))"), {"a": INT, "b": INT})
        self.takes(derivation, scale=up)
        for b, wanted in (("many", True), ("1", False), ("0", False)):
            turns = made(up, a="1", b=b)
            (self.takes if wanted else self.refuses)(
                changed(derivation, (), turns=turns, usage=made(up, a="many", b="many")), scale=up)

    def test_kinds(self):
        for text in ("3", "a", "(add a b)", "(fn x 1 int x)", "(call f a)", "(pair a b)", "(split x y p x)",
                     "(left int a)", "(right int a)", "(case e x x y y)", "(box 1 a)", "(unbox x d x)", "(test a b b)",
                     "(repeat a x 1 b x)", "(as int a)"):
            derivation = found(text)
            for path in paths(derivation):
                for kind in (INT, ("pair", INT, INT), ("box", "zz", INT), ("fun", "1", INT, ("box", "1", INT)),
                             ("either", INT, ("pair", INT, INT)), ("fun", "zz", INT, INT)):
                    if at_path(derivation, path).kind != kind:
                        self.refuses(changed(derivation, path, kind=kind))

    def test_terms(self):
        derivation = found("(add a (mul a b))")
        for path, text in (((), "(sub a (mul a b))"), ((), "(add a (mul b a))"), ((0,), "b"), ((0,), "3"),
                           ((1,), "(mul b a)"), ((1, 0), "b"), ((1,), "(add a b)")):
            if (path, text) == ((), "(sub a (mul a b))"):
                self.takes(changed(derivation, path, term=read_term(text)))
            else:
                self.refuses(changed(derivation, path, term=read_term(text)))
        self.refuses(changed(found("(call f 3)"), (1,), term=("int", 4)))
        self.refuses(changed(found("(fn x 1 int x)"), (), term=read_term("(fn y 1 int x)")))
        self.refuses(changed(found("(fn x 1 int x)"), (), term=read_term("(fn x 1 (box 1 int) x)")))
        self.refuses(changed(found("a"), (), term=("name", "q")))

    def test_number_of_parts(self):
        for text in ("(add a b)", "(fn x 1 int x)", "(call f a)", "(case e x x y y)", "(test a b b)", "(box 1 a)",
                     "(repeat a x 1 b x)", "(as int a)", "(unbox x d x)", "(split x y p x)", "(left int a)"):
            derivation = found(text)
            parts = derivation.parts
            for other in ([], parts[:-1], parts[1:], parts + [parts[-1]], parts + [found("3")]):
                if len(other) != len(parts):
                    self.refuses(changed(derivation, (), parts=other))
        for text in ("3", "a"):
            self.refuses(changed(found(text), (), parts=[found("3")]))
        derivation = found("(test a b 3)")
        self.refuses(changed(derivation, (), parts=derivation.parts[::-1]))

    def test_parts_of_other_kinds(self):
        for text, others in (
                ("(add a b)", ("p", "d")), ("(call f a)", ("p", "e")), ("(split x y p 1)", ("a", "e", "d")),
                ("(case e x 1 y 2)", ("a", "p")), ("(unbox x d 1)", ("a", "p", "f")),
                ("(test a b 3)", ("d",)), ("(repeat a x 0 b 1)", ("d",)), ("(as int a)", ("d", "f"))):
            derivation = found(text)
            for at, part in enumerate(derivation.parts):
                for other in others:
                    if found(other).kind == part.kind:
                        continue
                    row = list(derivation.term)
                    row[row.index(part.term)] = ("name", other)
                    parts = list(derivation.parts)
                    parts[at] = found(other)
                    usage = made(**{name: "9" for name in "abdefp"})
                    if text == "(repeat a x 0 b 1)" and derivation.turns is not None:
                        self.refuses(changed(derivation, (), term=tuple(row), parts=parts, usage=usage, turns=usage))
                    self.refuses(changed(derivation, (), term=tuple(row), parts=parts, usage=usage))

    def test_gone_terms_loose_gaps_unknown_grades_and_names_bound_twice(self):
        gone = Derivation(("gone", INT), made(), INT, [])
        self.refuses(gone)
        self.refuses(Derivation(("box", "0", ("gone", INT)), made(), ("box", "0", INT), [gone], grade="0"))
        loose = found("(as (fun 1 int int) (fn x ? int x))").parts[0]
        self.refuses(loose)
        self.refuses(Derivation(("box", "1", loose.term), made(), ("box", "1", loose.kind), [loose], grade="1"))
        self.takes(Derivation(("as", loose.kind, loose.term), made(), loose.kind, [loose]))
        self.takes(Derivation(("call", loose.term, ("int", 3)), made(), INT, [loose, found("3")], grade="1"))
        self.refuses(Derivation(("call", ("name", "f"), loose.term), made(f="1"), INT, [found("f"), loose], grade="2"))
        for text in ("(box zz 3)", "(left (box zz int) 3)", "(as (pair int (box zz int)) 3)", "(fn x zz int 3)"):
            term = read_term(text)
            kind = {"box": ("box", "zz", INT), "left": ("either", INT, ("box", "zz", INT)), "as": term[1],
                    "fn": ("fun", "zz", INT, INT)}[term[0]]
            self.refuses(Derivation(term, made(), kind, [found("3")], grade="zz" if term[0] in ("box", "fn") else ""))
        self.refuses(Derivation(("split", "x", "x", ("name", "p"), ("int", 3)), made(p="1"), INT,
                                [found("p"), found("3")]))
        self.takes(Derivation(("split", "x", "y", ("name", "p"), ("int", 3)), made(p="1"), INT,
                              [found("p"), found("3")]))

    def test_other_scales_and_contexts(self):
        for text in ("3", "a", "(add a b)", "(repeat 1 x 1 a x)", "(box 1 a)"):
            derivation = found(text)
            for scale in (ExactTally(), LeastTally(), LevelScale(4), CutScale(2, order="up")):
                self.refuses(derivation, scale=scale)
                for path in paths(derivation):
                    self.refuses(changed(derivation, path, usage=Usage(scale)))
            self.takes(derivation, scale=MostTally())
        derivation = found("(add a (unbox x d x))")
        for context in ({}, {"a": INT}, {"d": KINDS["d"]}, {**KINDS, "a": KINDS["d"]}, {**KINDS, "d": INT},
                        {**KINDS, "d": ("box", "3", INT)}):
            self.refuses(derivation, context=context)
        self.takes(derivation, context={"a": INT, "d": KINDS["d"]})
        self.takes(derivation, context={**KINDS, "x": KINDS["p"]})

    def test_bounds(self):
        derivation = check(ExactTally(), read_term("(test 1 a a)"), KINDS)
        self.takes(derivation, scale=ExactTally())
        parts = [derivation.parts[0], derivation.parts[1], check(ExactTally(), ("int", 3))]
        broken = changed(derivation, (), parts=parts, term=read_term("(test 1 a 3)"))
        self.refuses(broken, scale=ExactTally())

    def test_arguments_stay_as_they_are(self):
        context = copy.deepcopy(KINDS)
        derivation = found("(call (fn x ? int (repeat x y ? a y)) (split x y p (add x y)))")
        before = told_tree(MOST, derivation)
        self.takes(derivation, context=context)
        self.assertEqual((context, told_tree(MOST, derivation)), (KINDS, before))

    def test_random_changes(self):
        counts = {True: 0, False: 0}
        for scale in checking_scales():
            for seed in range(14):
                maker = Maker(scale, seed)
                context = {"a": INT, "b": maker.kind(1)}
                try:
                    derivation = check(scale, maker.term(maker.kind(1), context, 3), context)
                except (UsescaleError, NameMissing):
                    continue
                self.assertIs(accepts(scale, derivation, context), True)
                for path in paths(derivation):
                    for changes in self.some_changes(maker, at_path(derivation, path)):
                        other = changed(derivation, path, **changes)
                        wanted = plain_accepts(scale, other, context)
                        counts[wanted] += 1
                        self.assertIs(accepts(scale, other, context), wanted,
                                      (scale.label, derivation.term, path, changes))
        self.assertGreater(min(counts.values()), 500)

    def some_changes(self, maker, node):
        usage = node.usage.copy()
        usage[maker.pick("a", "b", "x", "y")] = Grade.named(maker.scale, maker.grade())
        turns = (node.turns or Usage(maker.scale)).copy()
        turns["a"] = Grade.named(maker.scale, maker.grade())
        return [{"usage": usage}, {"usage": usage, "turns": turns}, {"grade": maker.grade()},
                {"kind": maker.kind(1)}, {"term": maker.broken(node.term)}, {"turns": turns},
                {"parts": node.parts[:-1]}, {"grade": maker.grade(), "usage": usage}, {}]

    def test_the_usage_of_a_check_lies_within_those_of_all_accepted_derivations(self):
        larger = 0
        for scale in checking_scales():
            for seed in range(40):
                maker = Maker(scale, seed)
                try:
                    derivation = check(scale, maker.term(INT, {"a": INT}, 4), {"a": INT})
                    other = self.grown(maker, derivation)
                except (UsescaleError, NameMissing):
                    continue
                taken = plain_accepts(scale, other, {"a": INT})
                self.assertIs(accepts(scale, other, {"a": INT}), taken)
                if taken:
                    larger += derivation.usage != other.usage
                    self.assertTrue(derivation.usage <= other.usage)
        self.assertGreater(larger, 100)

    def grown(self, maker, node):
        """A derivation of the same term in which the usages of free names are larger, from the inside out."""
        scale = maker.scale
        parts = [self.grown(maker, part) for part in node.parts]
        turns = turns_by_rule(scale, node.term, parts, node.grade)
        usage = usage_by_rule(scale, node.term, parts, node.grade, turns)
        for name in ("a", "q"):
            choices = [Grade.named(scale, grade) for grade in maker.grades]
            usage[name] = maker.source.choice([grade for grade in choices if usage[name] <= grade] or [usage[name]])
        return remade(node, parts=parts, usage=usage, turns=turns)


if __name__ == "__main__":
    unittest.main()
