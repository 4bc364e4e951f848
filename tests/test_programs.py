import copy
import unittest

from made_terms import Maker, checking_scales, some_grades
from plain_check import INT, plain_program, told, told_error, told_tree
from usescale.checker import check_program, check_under
from usescale.derivations import Derivation, accepts
from usescale.errors import NameMissing, UsescaleError
from usescale.families import CutScale, LevelScale, RelationScale
from usescale.grades import Grade
from usescale.plain import run_plain
from usescale.reader import read_program
from usescale.tallies import ExactTally, MostTally


def outcome(scale, act):
    try:
        return told_tree(scale, act())
    except (UsescaleError, NameMissing) as error:
        return told_error(error)


def error_of(scale, text, under=None):
    inputs, term = read_program(text)
    try:
        check_program(scale, inputs, term) if under is None else check_under(scale, inputs, term, under)
    except (UsescaleError, NameMissing) as error:
        return told_error(error)
    return None


class ProgramTest(unittest.TestCase):
    def test_what_is_returned(self):
        _, term = read_program("(program (inputs) (call (fn x ? int (add x (mul x a))) (sub a c)))")
        derivation = check_program(MostTally(), [("a", "3"), ("b", "0"), ("c", "2")], term)
        self.assertIsInstance(derivation, Derivation)
        self.assertEqual((derivation.term, told(derivation.usage), derivation.kind), (term, {"a": "3", "c": "2"}, INT))
        self.assertEqual(told(check_under(MostTally(), [("a", "6"), ("b", "0"), ("c", "4")], term, "2").usage),
                         {"a": "3", "c": "2"})

    def test_inputs_in_order(self):
        for text, wanted in (
                ("(program (inputs (x zz) (x yy)) q)", ("UnknownGrade", {"name": "zz"})),
                ("(program (inputs (x 1) (x yy)) q)", ("UnknownGrade", {"name": "yy"})),
                ("(program (inputs (x 1) (x 1) (y zz)) q)", ("TwiceBound", {"name": "x"})),
                ("(program (inputs (x 1) (y 2) (z 0) (y 1) (x 1)) q)", ("TwiceBound", {"name": "y"})),
                ("(program (inputs (x 1) (y zz) (x 1)) q)", ("UnknownGrade", {"name": "zz"}))):
            self.assertEqual(error_of(ExactTally(), text), wanted)
            self.assertEqual(error_of(ExactTally(), text, "1"), wanted)

    def test_then_the_term_its_kind_and_the_uses(self):
        for text, wanted in (
                ("(program (inputs (x 7)) (pair x q))", ("UnboundName", {"name": "q"})),
                ("(program (inputs (x 7)) (fn x ? int x))", ("LooseGap", {"name": "x"})),
                ("(program (inputs (x 7)) (gone int))", ("GoneTerm", {})),
                ("(program (inputs (x 7)) (call x 1))", ("WrongForm", {"word": "fun", "found": INT})),
                ("(program (inputs (x 7)) (pair x x))", ("KindClash", {"wanted": INT, "found": ("pair", INT, INT)})),
                ("(program (inputs (x 7)) (add x x))", ("Overuse", {"name": "x", "used": "2", "allowed": "7"})),
                ("(program (inputs (z 1) (a 1)) 3)", ("Overuse", {"name": "z", "used": "0", "allowed": "1"})),
                ("(program (inputs (z 1) (a 1)) z)", ("Overuse", {"name": "a", "used": "0", "allowed": "1"})),
                ("(program (inputs (z 1) (a 1)) (add z a))", None), ("(program (inputs) 3)", None)):
            self.assertEqual(error_of(ExactTally(), text), wanted)
            self.assertEqual(error_of(ExactTally(), text, "1"), wanted)

    def test_a_wanted_grade(self):
        for text, under, wanted in (
                ("(program (inputs (x yy) (x 1)) q)", "zz", ("UnknownGrade", {"name": "zz"})),
                ("(program (inputs (x yy) (x 1)) q)", "?", ("UnknownGrade", {"name": "?"})),
                ("(program (inputs (x yy) (x 1)) q)", "2", ("UnknownGrade", {"name": "yy"})),
                ("(program (inputs (x 6)) (add x (add x x)))", "2", None),
                ("(program (inputs (x 3)) (add x (add x x)))", "2",
                 ("Overuse", {"name": "x", "used": "6", "allowed": "3"})),
                ("(program (inputs (x 3)) (add x (add x x)))", "0",
                 ("Overuse", {"name": "x", "used": "0", "allowed": "3"})),
                ("(program (inputs (x 0)) (add x (add x x)))", "0", None),
                ("(program (inputs (y 2) (x 3)) (add x y))", "2",
                 ("Overuse", {"name": "x", "used": "2", "allowed": "3"})),
                ("(program (inputs (x 2)) (pair x x))", "2",
                 ("KindClash", {"wanted": INT, "found": ("pair", INT, INT)}))):
            self.assertEqual(error_of(ExactTally(), text, under), wanted, (text, under))

    def test_the_wanted_grade_stands_on_the_left(self):
        scale = RelationScale(2)
        for wanted, inner, product in (("0100", "0010", "1000"), ("0010", "0100", "0001")):
            for allowed in (scale.name_at(place) for place in scale.places()):
                text = f"(program (inputs (x {allowed})) (unbox q (box {inner} x) 1))"
                within = scale.within_at(scale.at_name(product), scale.at_name(allowed))
                error = ("Overuse", {"name": "x", "used": product, "allowed": allowed})
                self.assertEqual(error_of(scale, text, wanted), None if within else error)

    def test_arguments_stay_as_they_are(self):
        inputs, term = read_program("(program (inputs (x 2) (y 1)) (add x (add x y)))")
        before = copy.deepcopy((inputs, term))
        check_program(ExactTally(), inputs, term)
        check_under(ExactTally(), inputs, term, "1")
        with self.assertRaises(UsescaleError):
            check_under(ExactTally(), inputs, term, "2")
        self.assertEqual((inputs, term), before)

    def test_scales(self):
        for scale in checking_scales() + [CutScale(0, period=2), CutScale(2), LevelScale(1)]:
            used = scale.name_at(scale.sum_at(scale.one_at, scale.sum_at(scale.one_at, scale.one_at)))
            for grade in some_grades(scale):
                within = scale.within_at(scale.at_name(used), scale.at_name(grade))
                wanted = None if within else ("Overuse", {"name": "x", "used": used, "allowed": grade})
                text = f"(program (inputs (x {grade})) (add x (add x x)))"
                self.assertEqual(error_of(scale, text), wanted, (scale.label, grade))

    def test_random_programs(self):
        counts = {}
        for scale in checking_scales():
            for seed in range(80):
                maker = Maker(scale, seed)
                inputs, term, _ = maker.program(4)
                if seed % 4 == 0:
                    term = maker.broken(term)
                if seed % 4 == 1 and inputs:
                    inputs = inputs + [(inputs[0][0] if seed % 8 == 1 else "q", maker.grade())]
                before = copy.deepcopy(inputs)
                for under in (None, maker.grade(), "zz" if seed % 9 == 0 else maker.grade()):
                    wanted = outcome(scale, lambda: plain_program(scale, inputs, term, under))
                    got = outcome(scale, lambda: check_program(scale, inputs, term) if under is None
                                  else check_under(scale, inputs, term, under))
                    self.assertEqual(got, wanted, (scale.label, inputs, term, under))
                    sort = wanted[0] if wanted[0] and wanted[0][0].isupper() else "accepted"
                    counts[sort, under is None] = counts.get((sort, under is None), 0) + 1
                self.assertEqual(inputs, before)
        for sort in ("accepted", "Overuse", "TwiceBound"):
            self.assertGreater(min(counts[sort, True], counts[sort, False]), 50)

    def test_what_a_wanted_grade_promises(self):
        """Point 35: the sum of as many wanted grades as an input has looks lies within its grade."""
        looked = 0
        for scale in checking_scales():
            for seed in range(60):
                maker = Maker(scale, seed)
                inputs, term, values = maker.program(5)
                under = maker.grade()
                wanted = Grade.named(scale, under)
                usage = maker.checker.times(under, told_places(scale, maker, term, inputs))
                inputs = [(name, scale.name_at(maker.checker.at(usage, name))) for name, _ in inputs]
                try:
                    derivation = check_under(scale, inputs, term, under)
                except (UsescaleError, NameMissing):
                    continue
                self.assertTrue(accepts(scale, derivation, {name: INT for name, _ in inputs}))
                _, looks, _ = run_plain(term, values)
                for name, grade in inputs:
                    total = Grade.zero(scale)
                    for _ in range(looks[name]):
                        total = total + wanted
                    looked += looks[name]
                    self.assertTrue(total <= Grade.named(scale, grade), (scale.label, inputs, term, under))
        self.assertGreater(looked, 200)


def told_places(scale, maker, term, inputs):
    try:
        return maker.checker.check(term, {name: INT for name, _ in inputs}).usage
    except (UsescaleError, NameMissing):
        return {}


if __name__ == "__main__":
    unittest.main()
