import copy
import unittest

from made_terms import checking_scales
from plain_machine import PlainMachine
from runs import machine_of, short_programs, steps_of, told_cells, told_machine
from usescale.checker import check_program
from usescale.errors import NotDone, OutOfMoves
from usescale.families import CutScale, LevelScale, RelationScale
from usescale.grades import Grade
from usescale.machine import Machine
from usescale.plain import run_plain
from usescale.reader import read_program
from usescale.tallies import ExactTally, MostTally

WORDS = ["call", "choose", "look", "open", "split", "test", "turn"]


class MoveTest(unittest.TestCase):
    def runs(self, text, answer, moves, grades, *values, scale=None):
        """The program makes these moves over cells of these grades and gives the answer."""
        machine = machine_of(text, *values, scale=scale)
        self.assertEqual(steps_of(machine), moves)
        self.assertEqual(machine.answer, answer)
        self.assertEqual([machine.grade_of(cell).name for cell in range(len(machine))], grades.split())
        for cell in range(len(machine)):
            self.assertIsInstance(machine.grade_of(cell), Grade)
            self.assertEqual(machine.looks(cell), moves.count(("look", cell)))
        return machine

    def test_programs_without_moves(self):
        for text, answer in (("7", 7), ("(add 1 (sub 2 (mul 3 -4)))", 15), ("(as int (sub 3 10))", -7)):
            self.runs(f"(program (inputs) {text})", answer, [], "")
            self.runs(f"(program (inputs (a 0) (b 0)) {text})", answer, [], "0 0", 1, 2)

    def test_inputs_are_the_first_cells_with_their_grades(self):
        machine = self.runs("(program (inputs (b 2) (c 0) (a 1)) (add b (sub a b)))", -1 + 5,
                            [("look", 0), ("look", 2), ("look", 0)], "2 0 1", 5, 9, 4)
        self.assertEqual(len(machine), 3)
        self.runs("(program (inputs (a many)) a)", 3, [("look", 0)], "many", 3, scale=CutScale(1, order="up"))

    def test_a_call_makes_a_cell_with_the_grade_of_the_fn(self):
        self.runs("(program (inputs (a 2)) (call (fn x 2 int (add x x)) a))", 8,
                  [("call", 1), ("look", 1), ("look", 0), ("look", 1), ("look", 0)], "2 2", 4)
        self.runs("(program (inputs (a 5)) (call (as (fun 5 int int) (fn x 3 int (add x x))) a))", 8,
                  [("call", 1), ("look", 1), ("look", 0), ("look", 1), ("look", 0)], "5 3", 4, scale=MostTally())
        self.runs("(program (inputs (a 0)) (call (fn x 0 int 7) a))", 7, [("call", 1)], "0 0", 4)

    def test_gaps_have_the_grade_of_the_check(self):
        self.runs("(program (inputs) (call (fn x ? int (add x (mul x x))) 2))", 6,
                  [("call", 0), ("look", 0), ("look", 0), ("look", 0)], "3")
        self.runs("(program (inputs) (call (as (fun 5 int int) (fn x ? int (add x x))) 2))", 4,
                  [("call", 0), ("look", 0), ("look", 0)], "2", scale=MostTally())
        self.runs("(program (inputs) (repeat 1 x ? 4 (add x x)))", 8,
                  [("turn", 1, 0), ("look", 0), ("turn", 0), ("look", 0), ("turn", 0)], "2")

    def test_a_split_makes_two_cells_with_the_grade_one(self):
        self.runs("(program (inputs) (split x y (pair 7 2) (sub y x)))", -5,
                  [("split", 0, 1), ("look", 1), ("look", 0)], "1 1")
        self.runs("(program (inputs) (split x y (test 0 (pair 1 2) (pair 3 4)) (add x y)))", 7,
                  [("test", False), ("split", 0, 1), ("look", 0), ("look", 1)], "2 2", scale=LevelScale(3))

    def test_a_choose_makes_a_cell_with_the_grade_one(self):
        for side, answer in (("left", 13), ("right", 7)):
            self.runs(f"(program (inputs (a 1)) (case ({side} int a) x (add 10 x) y (sub 10 y)))", answer,
                      [("choose", 1), ("look", 1), ("look", 0)], "1 1", 3)
        self.runs("(program (inputs) (case (right int 4) x x y 1))", 1, [("choose", 0)], "1", scale=MostTally())

    def test_an_open_makes_a_cell_with_the_grade_of_the_box_term(self):
        self.runs("(program (inputs (a 2)) (unbox x (box 2 a) (mul x x)))", 9,
                  [("open", 1), ("look", 1), ("look", 0), ("look", 1), ("look", 0)], "2 2", 3)
        self.runs("(program (inputs (a 3)) (unbox x (as (box 1 int) (box 3 a)) x))", 8,
                  [("open", 1), ("look", 1), ("look", 0)], "3 3", 8, scale=MostTally())
        boxes = "(unbox x (test {} (as (box 1 int) (box 3 4)) (as (box 1 int) (box 2 5))) x)"
        for number, answer, grade in ((1, 4, "3"), (0, 5, "2")):
            self.runs(f"(program (inputs) {boxes.format(number)})", answer,
                      [("test", number > 0), ("open", 0), ("look", 0)], grade, scale=MostTally())

    def test_a_turn_tells_the_turns_that_were_left_before_it(self):
        self.runs("(program (inputs) (repeat 2 x 1 5 (add x 1)))", 7,
                  [("turn", 2, 0), ("look", 0), ("turn", 1, 1), ("look", 1), ("turn", 0)], "1 1")
        self.runs("(program (inputs) (repeat 0 x 3 5 (add x (add x x))))", 5, [("turn", 0)], "")
        self.runs("(program (inputs) (repeat -4 x 3 5 (add x (add x x))))", 5, [("turn", -4)], "")
        self.runs("(program (inputs) (repeat 3 x 0 5 6))", 6, [("turn", 3, 0)], "0")
        self.runs("(program (inputs (a 1)) (repeat (sub a 3) x 2 5 (add x x)))", 10,
                  [("look", 0), ("turn", 1, 1), ("look", 1), ("turn", 0), ("look", 1), ("turn", 0)], "1 2", 4)

    def test_turns_that_look_twice(self):
        moves = [("turn", 2, 0)]
        for cell in (1, 2):
            moves += [("look", 0), ("turn", 1, cell), ("look", cell), ("turn", 0), ("look", cell), ("turn", 0)]
        self.runs("(program (inputs) (repeat 2 x 2 3 (add x x)))", 12, moves, "2 2 2")

    def test_a_test_tells_whether_the_integer_is_above_0(self):
        for number in (-3, 0, 1, 10 ** 40):
            self.runs(f"(program (inputs) (test {number} 5 6))", 5 if number > 0 else 6, [("test", number > 0)], "")

    def test_functions_that_are_handed_on(self):
        self.runs("(program (inputs (a 1)) (call (fn f 2 (fun 1 int int) (call f (call f a))) (fn x 1 int (add x 1))))",
                  5, [("call", 1), ("look", 1), ("call", 2), ("look", 2), ("look", 1), ("call", 3), ("look", 3),
                      ("look", 0)], "1 2 1 1", 3)

    def test_inner_binders_hide_outer_ones(self):
        self.runs("(program (inputs (a 1)) (call (fn a 1 int a) (add a 1)))", 3,
                  [("call", 1), ("look", 1), ("look", 0)], "1 1", 2)
        self.runs("(program (inputs (a 1)) (repeat 1 a 1 a (add a 1)))", 3,
                  [("turn", 1, 1), ("look", 1), ("turn", 0), ("look", 0)], "1 1", 2)


class RandomTest(unittest.TestCase):
    def test_the_moves_looks_and_grades_of_programs_on_all_scales(self):
        words = {}
        for scale in checking_scales():
            for inputs, term, values, derivation in short_programs(scale, 60):
                numbers = list(values.values())
                machine = Machine(scale, inputs, derivation, numbers)
                plain = PlainMachine(scale, inputs, derivation, numbers)
                answer, looks, plain_words = run_plain(term, values)
                moves = steps_of(machine)
                self.assertEqual([move[0] for move in moves], plain_words)
                self.assertEqual(moves, [plain.step() for _ in moves], (scale.label, inputs, term))
                self.assertIsNone(plain.step())
                self.assertEqual((machine.answer, plain.answer), (answer, answer))
                self.assertEqual([machine.looks(cell) for cell in range(len(inputs))], list(looks.values()))
                self.assertEqual(told_cells(machine)[:3],
                                 (len(plain.grades), plain.looks, [grade.name for grade in plain.grades]))
                for move in moves:
                    words[move[0]] = words.get(move[0], 0) + 1
        self.assertEqual(sorted(words), WORDS)
        self.assertGreater(min(words.values()), 50)


class EndTest(unittest.TestCase):
    PROGRAMS = (
        ("(program (inputs) 3)", ()), ("(program (inputs (a 1)) a)", (1,)),
        ("(program (inputs (a 1)) (repeat 3 x 1 a (add x 1)))", (5,)),
        ("(program (inputs (a 2)) (call (fn x 2 int (add x x)) a))", (1,)),
        ("(program (inputs) (unbox x (box 2 1) (split y z (pair x x) (case (left int y) u (add u z) v (sub z v)))))",
         ()),
        ("(program (inputs (a 1)) (test a (add 1 2) 4))", (1,)),
    )

    def test_done_and_answer(self):
        for text, values in self.PROGRAMS:
            machine = machine_of(text, *values)
            while True:
                self.assertIs(machine.done, False)
                with self.assertRaises(NotDone):
                    machine.answer
                if machine.step() is None:
                    break
            self.assertIs(machine.done, True)
            answer = machine.answer
            before = told_machine(machine)
            for _ in range(3):
                self.assertIsNone(machine.step())
            self.assertEqual((told_machine(machine), machine.finish(), machine.finish(0)), (before, answer, answer))

    def test_finish(self):
        for text, values in self.PROGRAMS:
            needed = len(steps_of(machine_of(text, *values)))
            whole = machine_of(text, *values)
            steps_of(whole)
            for limit in list(range(needed + 2)) + [2000]:
                machine = machine_of(text, *values)
                if limit >= needed:
                    self.assertEqual((machine.finish(limit), told_machine(machine)),
                                     (whole.answer, told_machine(whole)))
                    continue
                with self.assertRaises(OutOfMoves) as caught:
                    machine.finish(limit)
                self.assertEqual(caught.exception.bound, limit)
                self.assertEqual(told_machine(machine), told_machine(self.stepped(text, values, limit)))
                self.assertEqual(machine.finish(limit=needed), whole.answer)

    def stepped(self, text, values, many):
        machine = machine_of(text, *values)
        for _ in range(many):
            machine.step()
        return machine

    def test_finish_counts_from_the_start_of_the_run(self):
        for text, values in self.PROGRAMS:
            needed = len(steps_of(machine_of(text, *values)))
            for many in range(needed + 1):
                for limit in range(needed + 1):
                    machine = self.stepped(text, values, many)
                    if limit == needed or many == needed:
                        machine.finish(limit)
                        self.assertTrue(machine.done)
                        continue
                    with self.assertRaises(OutOfMoves):
                        machine.finish(limit)
                    self.assertEqual(told_machine(machine),
                                     told_machine(self.stepped(text, values, max(many, limit))))

    def test_the_limit_when_none_is_told(self):
        exactly = machine_of("(program (inputs (a 1)) (repeat 999 x 1 a (add x 1)))", 1)
        self.assertEqual((exactly.finish(), len(exactly)), (1000, 1000))
        more = machine_of("(program (inputs (a 2)) (repeat 999 x 1 (add a a) (add x 1)))", 1)
        with self.assertRaises(OutOfMoves) as caught:
            more.finish()
        self.assertEqual((caught.exception.bound, more.done, more.looks(0)), (2000, False, 1))
        self.assertEqual(more.step(), ("look", 0))
        self.assertEqual(more.finish(), 1001)

    def test_long_runs(self):
        for text, answer, limit in (
                ("(repeat 999 x 1 0 (add x 1))", 999, 2000), ("(repeat 999 x 1 0 (add 1 x))", 999, 2000),
                ("(repeat 2400 x 1 0 (add x 1))", 2400, 5000),
                ("(repeat 30 x 1 0 (repeat 15 y 1 x (add 1 y)))", 450, 2000),
                ("(call (repeat 300 f 1 (fn x 1 int x) (fn x 1 int (call f (add x 1)))) 0)", 300, 2000),
                ("(unbox x (repeat 280 b 1 (box 1 5) (unbox y b (box 1 (add y 1)))) x)", 285, 2000),
                ("(repeat 9 x 2 1 (add x x))", 512, 2100)):
            machine = machine_of(f"(program (inputs) {text})")
            self.assertEqual(machine.finish(limit), answer)
            self.assertEqual({grade.name for grade in machine.demands()}, {"0"})
            self.assertTrue(all(machine.freed(cell) for cell in range(len(machine))))

    def test_long_integers(self):
        long = 10 ** 30 + 7
        machine = machine_of("(program (inputs (a 3) (b 1)) (mul a (sub (add b a) a)))", long, -long)
        self.assertEqual(machine.finish(), -long * long)
        machine = machine_of("(program (inputs (a 1)) (repeat a x 0 5 6))", long)
        self.assertEqual(steps_of(machine), [("look", 0), ("turn", long, 1)])


class ArgumentTest(unittest.TestCase):
    def test_nothing_that_is_handed_in_is_changed_or_kept(self):
        text = "(program (inputs (a 3) (b 1)) (call (fn x ? int (add x (mul x (repeat 2 y 1 b (add y 1))))) (sub a 1)))"
        inputs, term = read_program(text)
        inputs[0] = ("a", "2")
        derivation = check_program(ExactTally(), inputs, term)
        values = [3, 4]
        before = copy.deepcopy((inputs, values, term, str(derivation.usage), derivation.grade))
        machine = Machine(ExactTally(), inputs, derivation, values)
        wanted = Machine(ExactTally(), inputs, derivation, values)
        steps_of(wanted)
        self.assertEqual((inputs, values, term, str(derivation.usage), derivation.grade), before)
        machine.step()
        inputs.clear()
        values[:] = [9, 9]
        derivation.parts.clear()
        steps_of(machine)
        self.assertEqual(told_machine(machine), told_machine(wanted))

    def test_two_machines_of_one_derivation_know_nothing_of_each_other(self):
        inputs, term = read_program("(program (inputs (a 2)) (add a a))")
        derivation = check_program(ExactTally(), inputs, term)
        first, second = (Machine(ExactTally(), inputs, derivation, [number]) for number in (3, 5))
        self.assertEqual(first.step(), ("look", 0))
        self.assertEqual((first.looks(0), second.looks(0)), (1, 0))
        self.assertEqual((second.finish(), first.finish()), (10, 6))

    def test_scales_that_are_made_anew(self):
        inputs, term = read_program("(program (inputs (a 1111)) (unbox x (box 0110 a) 4))")
        derivation = check_program(RelationScale(2), inputs, term)
        machine = Machine(RelationScale(2), inputs, derivation, [1])
        self.assertEqual(machine.demands(), [Grade.named(RelationScale(2), "0110")])
        self.assertEqual(machine.grade_of(0), Grade.named(RelationScale(2), "1111"))
        self.assertEqual(machine.finish(), 4)


if __name__ == "__main__":
    unittest.main()
