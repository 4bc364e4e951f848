import unittest

from made_terms import checking_scales
from plain_check import INT, told_tree
from runs import kinds_of, short_programs
from usescale.checker import check, check_program
from usescale.derivations import accepts, filled
from usescale.erasing import erase
from usescale.errors import GoneTerm
from usescale.families import CutScale, LevelScale, PairScale, RelationScale, TurnedScale
from usescale.forms import GAP_AT, part_positions
from usescale.grades import Grade
from usescale.plain import run_plain
from usescale.reader import read_kind, read_term
from usescale.tallies import ExactTally, LeastTally, MostTally
from usescale.terms import term_parts
from usescale.writer import write_term

CONTEXT = {"a": INT, "b": INT, "p": read_kind("(pair int int)"), "f": read_kind("(fun 0 int int)"),
           "d": read_kind("(box 0 (box 2 int))")}


def plain_idle(scale, name):
    """Whether no count of at least 1 fits; the sums of ones come back after as many as there are grades."""
    return not any(Grade.named(scale, name).fits(count) for count in range(1, 2 + 2 * (scale.size or 70)))


def plain_erase(scale, node):
    """Erasing in the words of point 36."""
    word = node.term[0]
    row = list(node.term)
    if word in GAP_AT:
        row[GAP_AT[word]] = node.grade
    for at, part in zip(part_positions(node.term), node.parts):
        gone = (word == "call" and at == 2 or word == "box") and plain_idle(scale, node.grade)
        row[at] = ("gone", part.kind) if gone else plain_erase(scale, part)
    return tuple(row)


def parts_inside(term):
    return [term] + [inner for part in term_parts(term) for inner in parts_inside(part)]


class EraseTest(unittest.TestCase):
    def erases(self, text, wanted, scale=None):
        scale = scale or ExactTally()
        term = read_term(text)
        derivation = check(scale, term, CONTEXT)
        before = told_tree(scale, derivation)
        self.assertEqual(write_term(erase(scale, derivation)), wanted)
        self.assertEqual((derivation.term, told_tree(scale, derivation)), (term, before))

    def same(self, text, scale=None):
        self.erases(text, text, scale)

    def test_calls(self):
        self.erases("(call (fn x 0 int 5) (add a b))", "(call (fn x 0 int 5) (gone int))")
        self.erases("(call (fn x 0 (pair int int) 5) p)", "(call (fn x 0 (pair int int) 5) (gone (pair int int)))")
        self.erases("(call f (mul a 3))", "(call f (gone int))")
        self.same("(call (fn x 1 int x) (add a b))")
        self.same("(call (fn x 2 int (add x x)) (add a b))")

    def test_boxes(self):
        self.erases("(box 0 (add a b))", "(box 0 (gone int))")
        self.erases("(unbox x (box 0 p) 5)", "(unbox x (box 0 (gone (pair int int))) 5)")
        self.same("(unbox x (box 1 (add a b)) x)")
        self.same("(unbox x d (unbox y (box 2 b) (add y y)))")

    def test_gaps_are_filled(self):
        self.erases("(call (fn x ? int 5) a)", "(call (fn x 0 int 5) (gone int))")
        self.erases("(call (fn x ? int (add x x)) a)", "(call (fn x 2 int (add x x)) a)")
        self.erases("(repeat a x ? 5 6)", "(repeat a x 0 5 6)")
        self.erases("(as (fun 0 int int) (fn x ? int (repeat 2 y ? 5 y)))",
                    "(as (fun 0 int int) (fn x 0 int (repeat 2 y 1 5 y)))")
        self.erases("(box 0 (as (fun 2 int int) (fn x ? int (add x x))))", "(box 0 (gone (fun 2 int int)))")
        self.erases("(box 0 (pair a (box 3 (left (box 1 int) b))))",
                    "(box 0 (gone (pair int (box 3 (either int (box 1 int))))))")

    def test_one_in_another(self):
        self.erases("(call (fn x 0 int (unbox y (box 0 a) 7)) (unbox z (box 0 b) 1))",
                    "(call (fn x 0 int (unbox y (box 0 (gone int)) 7)) (gone int))")
        self.erases("(box 0 (box 0 (box 0 a)))", "(box 0 (gone (box 0 (box 0 int))))")
        self.erases("(box 1 (box 0 (box 1 a)))", "(box 1 (box 0 (gone (box 1 int))))")
        self.erases("(call (fn x 1 int (call (fn y 0 int x) a)) (call (fn z 0 int 4) (call f b)))",
                    "(call (fn x 1 int (call (fn y 0 int x) (gone int))) (call (fn z 0 int 4) (gone int)))")
        self.erases("(call (call (fn x 0 int (fn y 1 int y)) a) (unbox z (box 0 b) 3))",
                    "(call (call (fn x 0 int (fn y 1 int y)) (gone int)) (unbox z (box 0 (gone int)) 3))")

    def test_the_grade_of_the_derivation_decides(self):
        self.same("(call (as (fun 1 int int) (fn x 0 int 5)) a)", MostTally())
        self.same("(unbox x (as (box 0 int) (box 1 a)) 5)", MostTally())
        self.erases("(unbox x (as (box 0 int) (box 0 a)) 5)", "(unbox x (as (box 0 int) (box 0 (gone int))) 5)",
                    MostTally())
        self.erases("(call (as (fun 0 int int) (fn x ? int 5)) a)",
                    "(call (as (fun 0 int int) (fn x 0 int 5)) (gone int))", MostTally())

    def test_idle_grades_of_several_scales(self):
        text = "(call (fn x {0} int 5) (unbox y (box {0} a) 6))"
        erased = "(call (fn x {0} int 5) (gone int))"
        for scale in (MostTally(), LevelScale(3), RelationScale(2), CutScale(2, order="up"), CutScale(0),
                      LeastTally(), TurnedScale(LevelScale(3)), CutScale(1, period=2),
                      PairScale(LeastTally(), LevelScale(3))):
            names = ["0", "1", "2"] if scale.size is None else [scale.name_at(place) for place in scale.places()]
            if isinstance(scale, PairScale):
                names = ["<0/0>", "<0/1>", "<0/2>"]
            for name in names:
                grade = Grade.named(scale, name)
                self.assertIs(grade.idle, plain_idle(scale, name))
                if not Grade.zero(scale) <= grade:
                    continue
                self.erases(text.format(name), (erased if grade.idle else text).format(name), scale)

    def test_all_other_forms_stay(self):
        for text in ("7", "a", "(sub a (mul b 3))", "(fn x 1 int x)", "(pair a b)", "(split x y p (add x y))",
                     "(left int a)", "(right int b)", "(case (left int a) x x y y)", "(test a b b)",
                     "(repeat a x 1 b x)", "(as int a)", "(unbox x d 3)"):
            self.same(text)


class RandomTest(unittest.TestCase):
    def test_programs_on_all_scales(self):
        erased, refused = 0, 0
        for scale in checking_scales():
            for inputs, term, values, derivation in short_programs(scale, 120):
                before = told_tree(scale, derivation)
                found = erase(scale, derivation)
                self.assertEqual(found, plain_erase(scale, derivation), (scale.label, term))
                self.assertEqual((told_tree(scale, derivation), derivation.term), (before, term))
                self.assertTrue(accepts(scale, derivation, kinds_of(inputs)))
                self.assertEqual(run_plain(found, values), run_plain(term, values), (scale.label, inputs, term))
                if found == filled(derivation):
                    continue
                erased += 1
                self.assertIn("gone", [part[0] for part in parts_inside(found)])
                with self.assertRaises(GoneTerm):
                    check_program(scale, inputs, found)
                refused += 1
        self.assertGreater(min(erased, refused), 150)


if __name__ == "__main__":
    unittest.main()
