import copy
import itertools
import unittest

from helpers import family_scales, made_scales, names_of, random_table
from made_terms import Maker, checking_scales
from nameless import INT, deep_term, one_of_each
from plain_check import told
from usescale.checker import check, check_program
from usescale.derivations import filled
from usescale.errors import MixedScales, NameMissing, UnknownGrade, UsescaleError
from usescale.families import CutScale, LevelScale, PairScale, RelationScale, SubsetScale, TurnedScale
from usescale.grades import Grade
from usescale.maps import CountMap, HalfMap, ScaleMap, carry_kind, carry_term, carry_usage, regular_maps
from usescale.reader import read_kind, read_program, read_term
from usescale.tallies import ExactTally, LeastTally, MostTally
from usescale.usages import Usage
from usescale.writer import write_kind, write_term

LEVELS, MANY = LevelScale(3), CutScale(2, order="up")
M = ScaleMap(LEVELS, MANY, ["many", "0", "1"])


class KindTest(unittest.TestCase):
    def test_each_form(self):
        for text, wanted in (
                ("int", "int"), ("(fun 0 int int)", "(fun many int int)"), ("(box 1 int)", "(box 0 int)"),
                ("(pair int (box 2 int))", "(pair int (box 1 int))"),
                ("(either (fun 2 int int) int)", "(either (fun 1 int int) int)"),
                ("(fun 1 (fun 0 (box 2 int) int) (pair (box 0 int) (either int (box 1 int))))",
                 "(fun 0 (fun many (box 1 int) int) (pair (box many int) (either int (box 0 int))))")):
            kind = read_kind(text)
            self.assertEqual(write_kind(carry_kind(M, kind)), wanted)
            self.assertEqual(kind, read_kind(text))

    def test_unknown_grades(self):
        for text, name in (("(fun 3 int int)", "3"), ("(pair (box 1 int) (box zz (box yy int)))", "zz"),
                           ("(fun 0 (box many int) (box 3 int))", "many")):
            with self.assertRaises(UnknownGrade) as caught:
                carry_kind(M, read_kind(text))
            self.assertEqual(caught.exception.name, name)


class TermTest(unittest.TestCase):
    def carries(self, text, wanted, m=M):
        term = read_term(text)
        self.assertEqual(write_term(carry_term(m, term)), wanted)
        self.assertEqual(term, read_term(text))

    def test_each_form(self):
        kind, carried = "(fun 2 int (box 1 int))", "(fun 1 int (box 0 int))"
        for text in ("3", "a", "(add a b)", "(sub a 1)", "(mul 2 b)", "(call f a)", "(pair a 1)",
                     "(split x y p (add x y))", "(case c x x y 1)", "(unbox x d x)", "(test a 1 0)"):
            self.carries(text, text)
        self.carries("(fn x 0 int x)", "(fn x many int x)")
        self.carries(f"(fn x 2 {kind} x)", f"(fn x 1 {carried} x)")
        self.carries("(box 1 a)", "(box 0 a)")
        self.carries("(repeat 2 x 0 1 0)", "(repeat 2 x many 1 0)")
        for word in ("left", "right", "as"):
            self.carries(f"({word} {kind} a)", f"({word} {carried} a)")
        self.carries(f"(gone {kind})", f"(gone {carried})")

    def test_gaps_stay(self):
        self.carries("(fn x ? (box 2 int) (repeat 1 y ? x (box 0 y)))",
                     "(fn x ? (box 1 int) (repeat 1 y ? x (box many y)))")
        for row in (("box", "?", ("name", "a")), ("as", ("box", "?", INT), ("name", "a")),
                    ("fn", "x", "?", ("box", "?", INT), ("name", "x"))):
            with self.assertRaises(UnknownGrade) as caught:
                carry_term(M, row)
            self.assertEqual(caught.exception.name, "?")

    def test_parts_of_all_forms(self):
        inner = ("box", "2", ("name", "q"))
        same = ScaleMap(CutScale(1, order="up"), LEVELS, ["0", "2"])
        for term in one_of_each().values():
            self.assertEqual(carry_term(ScaleMap.same(LevelScale(3)), term), term)
        self.assertEqual(carry_term(same, read_term("(box many (box 0 1))")), read_term("(box 2 (box 0 1))"))
        deep = deep_term(inner, 90)
        carried = carry_term(CountMap(LevelScale(2)), deep)
        self.assertEqual(carried, deep_term(("box", "1", ("name", "q")), 90))

    def test_names_and_binders_that_look_like_grades_stay(self):
        m = ScaleMap(random_table(3, 2), LEVELS, ["0", "1"])
        self.carries("(fn n0 n1 int (unbox n1 (box n0 n0) (add n1 n0)))",
                     "(fn n0 1 int (unbox n1 (box 0 n0) (add n1 n0)))", m)

    def test_unknown_grades(self):
        for text, name in (("(box 3 1)", "3"), ("(add (box 1 2) (fn x zz (box yy int) x))", "zz"),
                           ("(repeat (box 7 1) x 8 1 2)", "7"), ("(left (box many int) (box 9 1))", "many")):
            with self.assertRaises(UnknownGrade) as caught:
                carry_term(M, read_term(text))
            self.assertEqual(caught.exception.name, name)

    def test_halves_and_counts(self):
        pair = PairScale(LEVELS, MostTally())
        self.carries("(fn x <1/7> (box <0/2> int) 3)", "(fn x 1 (box 0 int) 3)", HalfMap(pair, "left"))
        self.carries("(fn x <1/7> (box <0/2> int) 3)", "(fn x 7 (box 2 int) 3)", HalfMap(pair, "right"))
        self.carries("(fn x 7 (box 1 int) 3)", "(fn x <2/7> (box <2/1> int) 3)", CountMap(pair))


class UsageTest(unittest.TestCase):
    def test_the_names_that_are_used(self):
        usage = Usage(LEVELS)
        for name, grade in (("b", "1"), ("a", "2"), ("c", "2")):
            usage[name] = Grade.named(LEVELS, grade)
        carried = carry_usage(M, usage)
        self.assertEqual((carried.scale.label, told(carried)), (MANY.label, {"a": "1", "c": "1"}))
        self.assertEqual(carried["q"], Grade.zero(MANY))
        self.assertEqual(told(usage), {"a": "2", "b": "1", "c": "2"})
        carried["a"] = Grade.zero(MANY)
        self.assertEqual(told(usage), {"a": "2", "b": "1", "c": "2"})
        self.assertEqual(told(carry_usage(M, Usage(LevelScale(3)))), {})

    def test_counts_and_halves(self):
        usage = Usage(ExactTally())
        usage["a"], usage["b"] = Grade.named(ExactTally(), "1"), Grade.named(ExactTally(), "9")
        self.assertEqual(told(carry_usage(CountMap(MANY), usage)), {"a": "1", "b": "many"})
        self.assertEqual(told(carry_usage(CountMap(CutScale(0, period=3)), usage)), {"a": "1"})
        pair = PairScale(LEVELS, MANY)
        usage = Usage(pair)
        usage["a"], usage["b"] = Grade.named(pair, "<0/1>"), Grade.named(pair, "<2/many>")
        self.assertEqual(told(carry_usage(HalfMap(pair, "left"), usage)), {"b": "2"})
        self.assertEqual(told(carry_usage(HalfMap(pair, "right"), usage)), {"a": "1", "b": "many"})

    def test_other_scales(self):
        usage = Usage(MANY)
        with self.assertRaises(MixedScales):
            carry_usage(M, usage)
        usage["a"] = Grade.one(MANY)
        with self.assertRaises(MixedScales):
            carry_usage(M, usage)


def some_terms(scale, many):
    """Terms without gaps that are accepted on a scale, with contexts and derivations."""
    found = []
    for seed in range(many):
        maker = Maker(scale, seed)
        context = {name: maker.kind(1) for name in ("a", "b", "x")}
        term = maker.term(maker.kind(2), context, 4)
        try:
            term = filled(check(scale, term, context))
        except (UsescaleError, NameMissing):
            continue
        found.append((term, context, check(scale, term, context)))
    return found


class PromiseTest(unittest.TestCase):
    """Point 42."""

    def holds(self, m, term, context, former):
        """The carried term is accepted as point 42 says."""
        before = copy.deepcopy((term, context))
        carried = {name: carry_kind(m, context[name]) for name in context}
        derivation = check(m.target, carry_term(m, term), carried)
        self.assertEqual(derivation.kind, carry_kind(m, former.kind))
        self.assertTrue(derivation.usage <= carry_usage(m, former.usage), (m.source.label, m.target.label, term))
        self.assertEqual((term, context), before)

    def test_regular_maps(self):
        scales = [LevelScale(2), LEVELS, LevelScale(4), MANY, TurnedScale(MANY), CutScale(1, period=2), CutScale(2),
                  SubsetScale(1), SubsetScale(2), PairScale(LevelScale(2), CutScale(1, order="up")),
                  CutScale(1, order="down"), TurnedScale(LEVELS)]
        tried = 0
        terms = {scale.label: some_terms(scale, 60) for scale in scales}
        for source, target in itertools.product(scales, repeat=2):
            for m in regular_maps(source, target):
                for term, context, former in terms[source.label]:
                    self.holds(m, term, context, former)
                    tried += 1
        self.assertGreater(tried, 2000)

    def test_counts(self):
        terms = some_terms(ExactTally(), 400)
        self.assertGreater(len(terms), 100)
        for scale in checking_scales() + family_scales() + made_scales():
            for term, context, former in terms:
                self.holds(CountMap(scale), term, context, former)

    def test_programs_of_an_exact_tally_are_accepted_on_every_regular_scale(self):
        text = "(program (inputs (a 2) (b 1)) (call (fn x 2 int (add x (mul x b))) a))"
        inputs, term = read_program(text)
        check_program(ExactTally(), inputs, term)
        for scale in checking_scales() + family_scales() + made_scales():
            m = CountMap(scale)
            check_program(scale, [(name, m.image(grade)) for name, grade in inputs], carry_term(m, term))

    def test_halves(self):
        """A term is accepted on a pair if and only if both halves are, and the usages' halves are theirs."""
        accepted, refused, one_half = 0, 0, 0
        for scale in (PairScale(LEVELS, MANY), PairScale(MostTally(), SubsetScale(2)), PairScale(MANY, CutScale(2)),
                      PairScale(RelationScale(2), LevelScale(2)), PairScale(LeastTally(), PairScale(MANY, LEVELS))):
            halves = [HalfMap(scale, "left"), HalfMap(scale, "right")]
            for seed in range(400):
                maker = Maker(scale, seed)
                context = {name: maker.kind(1) for name in ("a", "b", "x")}
                term = maker.term(maker.kind(2), context, 3)
                if seed % 2:
                    term = maker.broken(term)
                if "?" in write_term(term):
                    continue
                found = [self.usage(scale, term, context)] + [
                    self.usage(m.target, carry_term(m, term), {name: carry_kind(m, context[name]) for name in context})
                    for m in halves if self.carried(m, term)]
                if len(found) < 3:
                    self.assertIsNone(found[0])
                    continue
                both = found[1] is not None and found[2] is not None
                self.assertEqual(found[0] is not None, both, (scale.label, term))
                if found[0] is None:
                    refused += 1
                    one_half += found[1] is not None or found[2] is not None
                    continue
                accepted += 1
                self.assertEqual([carry_usage(m, found[0]) for m in halves], found[1:])
                for m in halves:
                    self.holds(m, term, context, check(scale, term, context))
        self.assertGreater(min(accepted, refused), 200)
        self.assertGreater(one_half, 5)

    def carried(self, m, term):
        try:
            carry_term(m, term)
        except UnknownGrade:
            return False
        return True

    def usage(self, scale, term, context):
        try:
            return check(scale, term, context).usage
        except (UsescaleError, NameMissing):
            return None

    def test_scales_that_are_not_regular(self):
        for seed in range(20):
            source, target = random_table(seed, 3), random_table(seed + 50, 4)
            images = [names_of(target)[(seed + at) % 4] for at in range(3)]
            m = ScaleMap(source, target, images)
            self.assertEqual(carry_kind(m, ("fun", "n1", ("box", "n0", INT), ("box", "n2", INT))),
                             ("fun", images[1], ("box", images[0], INT), ("box", images[2], INT)))
            self.assertEqual(CountMap(target).image("3"),
                             target.name_at(target.sum_at(target.sum_at(target.one_at, target.one_at), target.one_at)))


if __name__ == "__main__":
    unittest.main()
