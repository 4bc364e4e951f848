import copy
import unittest

from made_terms import checking_scales
from plain_check import INT, told_tree
from plain_judge import plain_judge
from runs import short_programs, steps_of, told_cells
from usescale.checker import check_program
from usescale.codejudge import judge_code
from usescale.codemachine import CodeMachine
from usescale.compiling import compile_code
from usescale.families import CutScale, LevelScale, RelationScale
from usescale.grades import Grade
from usescale.machine import Machine
from usescale.reader import read_program
from usescale.tallies import ExactTally, LeastTally, MostTally

LENGTHS = {"push": 2, "look": 2, "add": 1, "sub": 1, "mul": 1, "fn": 5, "call": 3, "pair": 5, "split": 1, "left": 4,
           "right": 4, "case": 5, "box": 4, "open": 1, "test": 5, "repeat": 6, "as": 2}


class CompileTest(unittest.TestCase):
    def compiles(self, scale, inputs, derivation, values):
        """The code is accepted, has the inputs as slots, and runs as the machine does; gives the code."""
        before = (copy.deepcopy(inputs), told_tree(scale, derivation))
        code = compile_code(scale, inputs, derivation)
        self.assertEqual((inputs, told_tree(scale, derivation)), before)
        self.well_formed(code)
        self.assertIsNone(judge_code(scale, code))
        self.assertIsNone(plain_judge(scale, code))
        slots = code[0][0]
        self.assertEqual([kind for kind, _ in slots], [INT] * len(inputs))
        for (_, grade), (_, allowed) in zip(slots, inputs):
            self.assertTrue(Grade.named(scale, grade) <= Grade.named(scale, allowed))
        machine = Machine(scale, inputs, derivation, values)
        other = CodeMachine(scale, code, [grade for _, grade in inputs], values)
        while True:
            move = machine.step()
            self.assertEqual((other.step(), len(other)), (move, len(machine)))
            if move is None:
                break
        self.assertEqual((other.answer, told_cells(other)), (machine.answer, told_cells(machine)))
        return code

    def well_formed(self, code):
        self.assertIsInstance(code, list)
        for block in code:
            self.assertIsInstance(block, tuple)
            slots, _, rows = block
            self.assertIsInstance(slots, tuple)
            self.assertIsInstance(rows, tuple)
            for slot in slots:
                self.assertIsInstance(slot, tuple)
                self.assertEqual(len(slot), 2)
            for row in rows:
                self.assertIsInstance(row, tuple)
                self.assertEqual(len(row), LENGTHS[row[0]])

    def program(self, text, *values, scale=None):
        scale = scale or ExactTally()
        inputs, term = read_program(text)
        return self.compiles(scale, inputs, check_program(scale, inputs, term), list(values))

    def test_each_form(self):
        for text in ("3", "(add 1 (sub 2 (mul 3 4)))", "(call (fn x 2 int (add x x)) 4)", "(as int 3)",
                     "(split x y (pair 1 2) (sub x y))", "(case (left int 3) x x y (sub 0 y))",
                     "(case (right int 3) x x y (sub 0 y))", "(unbox x (box 3 5) (add x (mul x x)))", "(test 1 2 3)",
                     "(test 0 2 3)", "(repeat 3 x 2 1 (add x x))", "(repeat 0 x 0 1 2)", "(repeat -1 x 1 5 x)"):
            self.program(f"(program (inputs) {text})")

    def test_inputs(self):
        self.program("(program (inputs (a 1)) a)", 5)
        self.program("(program (inputs (b 0) (a 2) (c 1)) (add a (mul c a)))", 5, 6, 7)
        self.program("(program (inputs (b 9) (a 9) (c 9)) (add a (mul c a)))", 5, 6, 7, scale=MostTally())
        code = self.program("(program (inputs (b 2) (a 0)) (call (fn x 1 int (add x b)) b))", 5, 6)
        self.assertEqual(len(code[0][0]), 2)

    def test_gaps(self):
        self.program("(program (inputs (a 2)) (call (fn x ? int (add x x)) a))", 5)
        self.program("(program (inputs (a 5)) (call (as (fun 5 int int) (fn x ? int (add x x))) a))", 5,
                     scale=MostTally())
        self.program("(program (inputs (a 1)) (repeat a x ? 1 (add x x)))", 5)

    def test_names_in_parts_that_are_never_looked_at(self):
        self.program("(program (inputs (a 0)) (unbox x (box 0 (add a 1)) 5))", 3)
        self.program("(program (inputs (a 0)) (call (fn x 0 int 5) (split y z (pair a a) (add y z))))", 3)

    def test_names_that_are_bound_more_than_once(self):
        inner = "(call (fn a 2 int (add a a)) (add a 1))"
        self.program(f"(program (inputs (a 2)) (call (fn a 2 int {inner}) (add a 0)))", 3)
        self.program("(program (inputs (a 2)) (split a b (pair a a) (split b a (pair a b) (sub a b))))", 3)
        self.program("(program (inputs (a 1)) (repeat 2 a 1 a (add a 1)))", 3)
        self.program("(program (inputs (a 1)) (case (left int a) a a a (sub 0 a)))", 3)
        self.program("(program (inputs (a 3)) (add (split x y (pair a 1) (sub x y)) (unbox x (box 2 a) (mul x x))))", 5)

    def test_entries_made_in_a_row(self):
        inner = "(split x y (pair 5 6) (sub y x))"
        self.program("(program (inputs (a 1)) (add (split x y (pair 1 a) (sub x y))"
                     f" (split u v (pair 3 4) (unbox w (box 1 u) (mul w (add v {inner}))))))", 7)

    def test_functions_boxes_and_pairs_out_of_branches(self):
        functions = "(test a (fn x 2 int (add x x)) (fn y 2 int (sub y y)))"
        self.program(f"(program (inputs (a 1) (b 2)) (call {functions} b))", 0, 4)
        boxes = "(test a (as (box 1 int) (box 3 4)) (as (box 1 int) (box 2 5)))"
        self.program(f"(program (inputs (a 1)) (unbox x {boxes} x))", 1, scale=MostTally())
        self.program("(program (inputs (a 1)) (split x y (case (left int a) u (pair u 1) v (pair 2 v)) (add x y)))", 3)
        functions = "(repeat 3 f 1 (fn x 1 int x) (fn x 1 int (call f (add x 1))))"
        self.program(f"(program (inputs (a 1)) (call {functions} a))", 3)

    def test_several_scales(self):
        self.program("(program (inputs (a many)) (repeat 3 x 1 a (add x a)))", 3, scale=CutScale(2, order="up"))
        self.program("(program (inputs (a 2)) (repeat 3 x 2 a (add x (mul a x))))", 3, scale=LevelScale(3))
        self.program("(program (inputs (a 1)) (test a 1 (add a a)))", 0, scale=LeastTally())
        self.program("(program (inputs (a 1000)) (unbox x (box 0100 (unbox y (box 0010 a) 5)) 6))", 3,
                     scale=RelationScale(2))

    def test_deep_terms(self):
        term = ("name", "a")
        for _ in range(60):
            term = ("add", ("int", 1), ("call", ("fn", "x", "1", INT, ("name", "x")), term))
        inputs = [("a", "1")]
        code = self.compiles(ExactTally(), inputs, check_program(ExactTally(), inputs, term), [5])
        self.assertEqual(len(code), 121)
        term = ("name", "a")
        for _ in range(100):
            term = ("as", INT, ("unbox", "x", ("box", "1", term), ("name", "x")))
        self.compiles(ExactTally(), inputs, check_program(ExactTally(), inputs, term), [5])

    def test_the_code_belongs_to_the_caller(self):
        inputs, term = read_program("(program (inputs (a 1)) (call (fn x 1 int x) a))")
        derivation = check_program(ExactTally(), inputs, term)
        wanted = compile_code(ExactTally(), inputs, derivation)
        compile_code(ExactTally(), inputs, derivation).clear()
        self.assertEqual(compile_code(ExactTally(), inputs, derivation), wanted)

    def test_programs_on_all_scales(self):
        words, moves = {}, 0
        for scale in checking_scales():
            for inputs, _, values, derivation in short_programs(scale, 80):
                code = self.compiles(scale, inputs, derivation, list(values.values()))
                for _, _, rows in code:
                    for row in rows:
                        words[row[0]] = words.get(row[0], 0) + 1
                moves += len(steps_of(Machine(scale, inputs, derivation, list(values.values()))))
        self.assertEqual(sorted(words), sorted(LENGTHS))
        self.assertGreater(min(words.values()), 100)
        self.assertGreater(moves, 4000)


if __name__ == "__main__":
    unittest.main()
