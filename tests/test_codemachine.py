import copy
import unittest

from made_codes import BOX, CONST, FUN, INT, LOOK, LOOKS, TWICE, Changer, block, own_codes
from made_terms import checking_scales, some_grades
from runs import machine_of, short_programs, steps_of, told_cells, told_end
from usescale.checker import check_program
from usescale.codejudge import judge_code
from usescale.codemachine import CodeMachine
from usescale.compiling import compile_code
from usescale.errors import BadCode, NotDone, OutOfMoves
from usescale.families import CutScale, RelationScale
from usescale.grades import Grade
from usescale.machine import Machine
from usescale.reader import read_program
from usescale.tallies import ExactTally, LeastTally, MostTally

MOST = MostTally()


def code_machine(code, values, scale=MOST):
    """A machine for a code, whose inputs have the grades of the slots."""
    judge_code(scale, code)
    return CodeMachine(scale, code, [grade for _, grade in code[0][0]], values)


def compiled(text, *values, scale=None):
    scale = scale or ExactTally()
    inputs, term = read_program(text)
    code = compile_code(scale, inputs, check_program(scale, inputs, term))
    return CodeMachine(scale, code, [grade for _, grade in inputs], list(values))


class InstructionTest(unittest.TestCase):
    def runs(self, answer, moves, grades, values, *blocks, scale=MOST):
        machine = code_machine(list(blocks), values, scale)
        self.assertEqual(steps_of(machine), moves)
        self.assertEqual(machine.answer, answer)
        self.assertEqual(told_cells(machine)[2], grades.split())
        for cell in range(len(machine)):
            self.assertEqual(machine.looks(cell), moves.count(("look", cell)))
            self.assertIsInstance(machine.grade_of(cell), Grade)
            self.assertIs(machine.freed(cell), not machine.grade_of(cell).room(machine.looks(cell)))

    def program(self, answer, moves, grades, slots, values, *rows, more=(), scale=MOST):
        self.runs(answer, moves, grades, values, block(slots, INT, *rows), *more, scale=scale)

    def test_codes_that_no_compiler_made(self):
        for code, values, answer, moves, grades in own_codes():
            self.runs(answer, moves, grades, values, *code)

    def test_push_and_operations(self):
        self.program(7, [], "", "", [], ("push", 7))
        for word, answer in (("add", 12), ("sub", 8), ("mul", 20)):
            self.program(answer, [], "", "", [], ("push", 10), ("push", 2), (word,))
        self.program(-11, [], "1", "1", [4], ("push", 1), ("push", 5), ("push", 12), ("sub",), ("sub",), ("push", 19),
                     ("sub",))

    def test_looks(self):
        self.program(5, [("look", 0)], "1", "1", [5], LOOK)
        self.program(3, [("look", 1), ("look", 0)], "1 1", "1 1", [2, 5], ("look", 1), LOOK, ("sub",))

    def test_functions(self):
        self.program(14, [("call", 0), ("look", 0), ("look", 0)], "2", "", [], ("fn", "2", INT, 1, ()), ("call", 2, ()),
                     more=[TWICE, CONST])
        inner = block([(INT, "1"), (INT, "1")], INT, ("look", 1), LOOK, ("sub",))
        self.program(6 - 5, [("call", 2), ("look", 2), ("look", 1), ("look", 0)], "1 1 1", "1 1", [5, 6],
                     ("fn", "1", INT, 1, (0,)), ("call", 2, (1,)), more=[inner, LOOKS])

    def test_pairs(self):
        self.program(-2, [("split", 1, 2), ("look", 2), ("look", 0), ("look", 1)], "1 1 1", "1", [5],
                     ("pair", 1, (), 2, (0,)), ("split",), ("look", 2), ("look", 1), ("sub",), more=[CONST, LOOKS])

    def test_sides(self):
        more = [LOOKS, block("1 1", INT, LOOK, ("look", 1), ("sub",)), block("1", INT, ("push", 9))]
        self.program(2, [("choose", 2), ("look", 0), ("look", 2), ("look", 1)], "1 1 1", "1 1", [5, 3],
                     ("left", INT, 1, (1,)), ("case", 2, (0,), 3, ()), more=more)
        self.program(9, [("choose", 2)], "1 1 1", "1 1", [5, 3],
                     ("right", INT, 1, (1,)), ("case", 2, (0,), 3, ()), more=more)

    def test_boxes(self):
        self.program(25, [("open", 1), ("look", 1), ("look", 0), ("look", 1), ("look", 0)], "3 3", "3", [5],
                     ("box", "3", 1, (0,)), ("open",), ("look", 1), ("look", 1), ("mul",), more=[LOOKS])

    def test_tests(self):
        for number in (3, 0, -1):
            self.program(-4 if number > 0 else -8,
                         [("look", 0), ("test", number > 0), ("look", 1)] + [("look", 1)] * (number <= 0), "1 2", "1 2",
                         [number, -4], LOOK, ("test", 1, (1,), 2, (1,)), more=[LOOKS, TWICE])

    def test_turns(self):
        more = [CONST, block("1", INT, LOOK, ("push", 3), ("mul",))]
        for number in (0, -2):
            self.program(7, [("look", 0), ("turn", number)], "1", "1", [number], LOOK, ("repeat", "1", 1, (), 2, ()),
                         more=more)
        self.program(63, [("look", 0), ("turn", 2, 1), ("look", 1), ("turn", 1, 2), ("look", 2), ("turn", 0)], "1 1 1",
                     "1", [2], LOOK, ("repeat", "1", 1, (), 2, ()), more=more)
        moves = [("turn", 2, 0)]
        for cell in (1, 2):
            moves += [("look", 0), ("turn", 1, cell), ("look", cell), ("turn", 0), ("look", cell), ("turn", 0)]
        self.program(28, moves, "2 2 2", "", [], ("push", 2), ("repeat", "2", 1, (), 2, ()), more=[CONST, TWICE])
        self.program(5, [("turn", 10 ** 30, 0)], "0", "", [], ("push", 10 ** 30), ("repeat", "0", 1, (), 2, ()),
                     more=[CONST, block("0", INT, ("push", 5))])

    def test_as(self):
        self.program(8, [("look", 0)], "1", "1", [8], LOOK, ("as", INT))

    def test_cells_have_their_own_grades(self):
        """Grades are those of the function and of the box themselves, and of the inputs as they are handed in."""
        code = [block("3", INT, ("box", "3", 2, (0,)), ("as", BOX), ("open",), ("fn", "4", INT, 1, ()),
                      ("as", ("fun", "6", INT, INT)), ("call", 3, ())), TWICE, LOOKS, CONST]
        judge_code(MOST, code)
        machine = CodeMachine(MOST, code, ["8"], [1])
        self.assertEqual((machine.finish(), told_cells(machine)[2]), (14, ["8", "3", "4"]))
        self.assertEqual(machine.grade_of(0), Grade.named(MostTally(), "8"))

    def test_freed_cells(self):
        machine = code_machine([block("2 0", INT, ("fn", "1", INT, 1, ()), ("call", 2, (0,)), LOOK, ("add",)), LOOKS,
                                LOOKS], [3, 4])
        found = []
        while True:
            found.append("".join("x" if machine.freed(cell) else "." for cell in range(len(machine))))
            if machine.step() is None:
                break
        self.assertEqual(found, [".x", ".x.", ".xx", ".xx", "xxx"])
        machine = code_machine([block("2", INT, LOOK, LOOK, ("add",))], [3], LeastTally())
        self.assertEqual((machine.finish(), machine.freed(0)), (6, False))


class EndTest(unittest.TestCase):
    CODES = ([(code, values) for code, values, _, _, _ in own_codes()]
             + [([CONST], []), ([block("1", INT, LOOK)], [3])])

    def test_done_and_answer(self):
        for code, values in self.CODES:
            machine = code_machine(code, values)
            while True:
                self.assertIs(machine.done, False)
                with self.assertRaises(NotDone):
                    machine.answer
                if machine.step() is None:
                    break
            self.assertIs(machine.done, True)
            before = (told_cells(machine), machine.answer)
            for _ in range(3):
                self.assertIsNone(machine.step())
            self.assertEqual(machine.finish(0), before[1])
            self.assertEqual((told_cells(machine), machine.answer), before)

    def test_finish(self):
        for code, values in self.CODES:
            moves = steps_of(code_machine(code, values))
            for made in range(len(moves) + 1):
                for limit in range(len(moves) + 2):
                    machine = code_machine(code, values)
                    for _ in range(made):
                        machine.step()
                    if limit >= len(moves) or made == len(moves):
                        self.assertEqual((machine.finish(limit), machine.done), (machine.answer, True))
                        continue
                    with self.assertRaises(OutOfMoves) as caught:
                        machine.finish(limit)
                    self.assertEqual((caught.exception.bound, machine.done), (limit, False))
                    with self.assertRaises(NotDone):
                        machine.answer
                    wanted = code_machine(code, values)
                    for _ in range(max(made, limit)):
                        wanted.step()
                    self.assertEqual(told_cells(machine), told_cells(wanted))
                    self.assertEqual(steps_of(machine), moves[max(made, limit):])

    def test_the_limit_when_none_is_told(self):
        exactly = compiled("(program (inputs (a 1)) (repeat 999 x 1 a (add x 1)))", 1)
        self.assertEqual((exactly.finish(), len(exactly)), (1000, 1000))
        more = compiled("(program (inputs (a 2)) (repeat 999 x 1 (add a a) (add x 1)))", 1)
        with self.assertRaises(OutOfMoves) as caught:
            more.finish()
        self.assertEqual((caught.exception.bound, more.done, more.looks(0)), (2000, False, 1))
        self.assertEqual(more.step(), ("look", 0))
        self.assertEqual(more.finish(limit=2001), 1001)

    def test_long_runs(self):
        for text, answer, limit in (
                ("(repeat 999 x 1 0 (add x 1))", 999, 2000), ("(repeat 999 x 1 0 (add 1 x))", 999, 2000),
                ("(repeat 2400 x 1 0 (add x 1))", 2400, 5000),
                ("(repeat 30 x 1 0 (repeat 15 y 1 x (add 1 y)))", 450, 2000),
                ("(call (repeat 300 f 1 (fn x 1 int x) (fn x 1 int (call f (add x 1)))) 0)", 300, 2000),
                ("(unbox x (repeat 280 b 1 (box 1 5) (unbox y b (box 1 (add y 1)))) x)", 285, 2000),
                ("(repeat 9 x 2 1 (add x x))", 512, 2100)):
            machine = compiled(f"(program (inputs) {text})")
            self.assertEqual(machine.finish(limit), answer)
            self.assertTrue(all(machine.freed(cell) for cell in range(len(machine))))
            whole = machine_of(f"(program (inputs) {text})")
            whole.finish(limit)
            self.assertEqual(told_cells(machine), told_cells(whole))


class ArgumentTest(unittest.TestCase):
    def test_nothing_that_is_handed_in_is_changed_or_kept(self):
        for code, values, answer, moves, _ in own_codes():
            grades = [grade for _, grade in code[0][0]]
            before = copy.deepcopy((code, grades, values))
            machine = CodeMachine(MOST, code, grades, values)
            other = CodeMachine(MOST, code, grades, values)
            self.assertEqual(steps_of(other), moves)
            self.assertEqual((code, grades, values), before)
            machine.step()
            code.clear()
            grades.clear()
            values.clear()
            self.assertEqual((machine.finish(), told_cells(machine)), (answer, told_cells(other)))


class RandomTest(unittest.TestCase):
    def test_the_same_as_the_machine(self):
        made = 0
        for scale in checking_scales():
            for inputs, _, values, derivation in short_programs(scale, 60):
                numbers = list(values.values())
                code = compile_code(scale, inputs, derivation)
                machine = Machine(scale, inputs, derivation, numbers)
                other = CodeMachine(scale, code, [grade for _, grade in inputs], numbers)
                while True:
                    self.assertEqual((told_cells(other), told_end(other)), (told_cells(machine), told_end(machine)))
                    move = machine.step()
                    self.assertEqual(other.step(), move, (scale.label, inputs, derivation.term))
                    if move is None:
                        break
                    made += 1
                self.assertEqual((told_cells(other), told_end(other)), (told_cells(machine), told_end(machine)))
        self.assertGreater(made, 3000)

    def test_what_point_47_promises_of_accepted_codes(self):
        """Whoever made the code: the looks fit the grades, and freed cells are never looked at."""
        ran, looked = 0, 0
        for scale in checking_scales():
            for at, (inputs, _, values, derivation) in enumerate(short_programs(scale, 40)):
                code = compile_code(scale, inputs, derivation)
                for seed in range(12):
                    changed = Changer(scale, 100 * at + seed).code(code)
                    if not self.accepted(scale, changed) or changed == code:
                        continue
                    numbers = list(values.values()) + [3, 4]
                    grades = [self.wider(scale, grade, seed) for _, grade in changed[0][0]]
                    machine = CodeMachine(scale, changed, grades, numbers[:len(grades)])
                    looked += self.holds(machine)
                    ran += 1
        self.assertGreater(ran, 300)
        self.assertGreater(looked, 600)

    def accepted(self, scale, code):
        try:
            judge_code(scale, code)
        except BadCode:
            return False
        return True

    def wider(self, scale, grade, seed):
        """A grade that the grade of a slot lies within."""
        found = [name for name in some_grades(scale) + [grade]
                 if Grade.named(scale, grade) <= Grade.named(scale, name)]
        return found[seed % len(found)]

    def holds(self, machine):
        looked = 0
        freed = [machine.freed(cell) for cell in range(len(machine))]
        for _ in range(2000):
            move = machine.step()
            if move is None:
                break
            if move[0] == "look":
                looked += 1
                self.assertFalse(freed[move[1]])
            if len(machine) < 60:
                freed = [machine.freed(cell) for cell in range(len(machine))]
            else:
                freed = [False] * len(machine)
        machine.finish(10 ** 6)
        for cell in range(len(machine)):
            self.assertTrue(machine.grade_of(cell).fits(machine.looks(cell)))
        return looked


class ScaleTest(unittest.TestCase):
    def test_scales_that_are_made_anew(self):
        code = [block("0110", INT, ("box", "0110", 1, (0,)), ("open",), ("push", 4)), block("1001", INT, LOOK)]
        judge_code(RelationScale(2), code)
        machine = CodeMachine(RelationScale(2), code, ["1111"], [1])
        self.assertEqual(machine.finish(), 4)
        self.assertEqual(machine.grade_of(1), Grade.named(RelationScale(2), "0110"))
        self.assertEqual((machine.freed(0), machine.freed(1)), (False, True))
        machine = CodeMachine(CutScale(0), [block("many", INT, LOOK)], ["many"], [5])
        self.assertEqual((machine.finish(), machine.freed(0)), (5, False))
        self.assertEqual(FUN[0], "fun")


if __name__ == "__main__":
    unittest.main()
