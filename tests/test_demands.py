import unittest

from made_terms import checking_scales
from plain_machine import PlainMachine
from runs import machine_of, short_programs, steps_of, told_machine
from usescale.families import CutScale, LevelScale, PairScale, RelationScale, SubsetScale, TurnedScale
from usescale.grades import Grade
from usescale.machine import Machine
from usescale.plain import run_plain
from usescale.tallies import ExactTally, LeastTally, MostTally

MANY = CutScale(2, order="up")


class DemandTest(unittest.TestCase):
    def demanded(self, text, values, *wanted, scale=None):
        """At the start and after each move the machine tells these demands; a move is told by its word and cells."""
        machine = machine_of(text, *values, scale=scale)
        found = [("start", self.told(machine))]
        while True:
            move = machine.step()
            if move is None:
                break
            found.append((" ".join([move[0], *[str(part) for part in move[1:]]]), self.told(machine)))
        rows = [tuple(part.strip() for part in row.split(":")) for row in wanted]
        self.assertEqual(found, rows)
        self.assertEqual({grade.place for grade in machine.demands()}, {machine.grade_of(0).scale.zero_at})

    def told(self, machine):
        return " ".join(grade.name for grade in machine.demands())

    def test_operands(self):
        for word in ("add", "sub", "mul"):
            self.demanded(f"(program (inputs (a 1) (b 2)) ({word} a ({word} b b)))", (1, 2),
                          "start: 1 2", "look 0: 0 2", "look 1: 0 1", "look 1: 0 0")

    def test_calls(self):
        functions = "(test a (fn x 2 int (add x x)) (fn y 2 int (sub y y)))"
        self.demanded(f"(program (inputs (a 1) (b 2)) (call {functions} b))", (1, 7),
                      "start: 1 2", "look 0: 0 2", "test True: 0 2", "call 2: 0 2 2", "look 2: 0 2 1", "look 1: 0 1 1",
                      "look 2: 0 1 0", "look 1: 0 0 0")

    def test_a_call_waits_with_the_grade_of_the_kind(self):
        functions = "(as (fun 5 int int) (test a (fn x 3 int (add x x)) (fn y 3 int y)))"
        self.demanded(f"(program (inputs (a 1) (b 9)) (call {functions} b))", (0, 7),
                      "start: 1 5", "look 0: 0 5", "test False: 0 5", "call 2: 0 1 1", "look 2: 0 1 0", "look 1: 0 0 0",
                      scale=MostTally())

    def test_splits(self):
        pairs = "(test a (pair b b) (pair b b))"
        self.demanded(f"(program (inputs (a 1) (b 2) (c 1)) (split x y {pairs} (add x (add y c))))",
                      (1, 2, 3), "start: 1 2 1", "look 0: 0 2 1", "test True: 0 2 1", "split 3 4: 0 2 1 1 1",
                      "look 3: 0 2 1 0 1", "look 1: 0 1 1 0 1", "look 4: 0 1 1 0 0", "look 1: 0 0 1 0 0",
                      "look 2: 0 0 0 0 0")

    def test_bound_names_are_no_names_of_outer_cells(self):
        self.demanded("(program (inputs (x 1)) (split x y (test x (pair 1 2) (pair 3 4)) (add x y)))", (1,),
                      "start: 1", "look 0: 0", "test True: 0", "split 1 2: 0 1 1", "look 1: 0 0 1", "look 2: 0 0 0")
        self.demanded("(program (inputs (x 1)) (case (test x (left int 1) (left int 2)) x x x (add x 1)))", (1,),
                      "start: 1", "look 0: 0", "test True: 0", "choose 1: 0 1", "look 1: 0 0")
        self.demanded("(program (inputs (x 1)) (unbox x (test x (box 2 1) (box 2 3)) (add x x)))", (1,),
                      "start: 1", "look 0: 0", "test True: 0", "open 1: 0 2", "look 1: 0 1", "look 1: 0 0")
        self.demanded("(program (inputs (x 2)) (repeat x x 1 x (add x 1)))", (1,),
                      "start: 2", "look 0: 1", "turn 1 1: 1 1", "look 1: 1 0", "turn 0: 1 0", "look 0: 0 0")

    def test_choices_and_tests_wait_with_the_least_bound(self):
        self.demanded("(program (inputs (a 1) (b 2)) (case (test a (left int 1) (left int 2))"
                      " x (add x b) y (add y (add b b))))", (1, 2),
                      "start: 1 2", "look 0: 0 2", "test True: 0 2", "choose 2: 0 1 1", "look 2: 0 1 0",
                      "look 1: 0 0 0", scale=MostTally())
        self.demanded("(program (inputs (a 1) (b 0)) (test a b (add b b)))", (0, 2),
                      "start: 1 1", "look 0: 0 1", "test False: 0 2", "look 1: 0 1", "look 1: 0 0", scale=LeastTally())
        sides = "(test a (left int b) (right int b))"
        self.demanded(f"(program (inputs (a 1) (b 1)) (case {sides} x x y (sub 0 y)))", (0, 2),
                      "start: 1 1", "look 0: 0 1", "test False: 0 1", "choose 2: 0 1 1", "look 2: 0 1 0",
                      "look 1: 0 0 0")

    def test_boxes(self):
        self.demanded("(program (inputs (a 2)) (unbox x (box 2 a) (mul x x)))", (3,),
                      "start: 2", "open 1: 2 2", "look 1: 2 1", "look 0: 1 1", "look 1: 1 0", "look 0: 0 0")
        self.demanded("(program (inputs (a 3)) (unbox x (as (box 1 int) (box 3 a)) x))", (3,),
                      "start: 3", "open 1: 1 1", "look 1: 1 0", "look 0: 0 0", scale=MostTally())
        self.demanded("(program (inputs (a 1) (b 2) (c 1)) (unbox x (test a (box 2 b) (box 2 b)) (mul x (add x c))))",
                      (1, 2, 3), "start: 1 2 1", "look 0: 0 2 1", "test True: 0 2 1", "open 3: 0 2 1 2",
                      "look 3: 0 2 1 1", "look 1: 0 1 1 1", "look 3: 0 1 1 0", "look 1: 0 0 1 0", "look 2: 0 0 0 0")

    def test_turns(self):
        self.demanded("(program (inputs (a 1) (b 1)) (repeat a x 1 b (add x 1)))", (2, 5),
                      "start: 1 1", "look 0: 0 1", "turn 2 2: 0 1 1", "look 2: 0 1 0", "turn 1 3: 0 1 0 1",
                      "look 3: 0 1 0 0", "turn 0: 0 1 0 0", "look 1: 0 0 0 0")
        self.demanded("(program (inputs (a 1) (b 1) (c many)) (repeat a x 1 b (add x c)))", (2, 5, 3),
                      "start: 1 1 many", "look 0: 0 1 many", "turn 2 3: 0 1 many 1", "look 3: 0 1 many 0",
                      "turn 1 4: 0 1 many 0 1", "look 4: 0 1 many 0 0", "turn 0: 0 1 many 0 0", "look 1: 0 0 many 0 0",
                      "look 2: 0 0 1 0 0", "look 2: 0 0 0 0 0", scale=MANY)

    def test_turns_use_the_same_whatever_number_is_left(self):
        for number in (0, -3):
            self.demanded("(program (inputs (a 1) (b many)) (repeat a x 1 0 (add x b)))", (number, 5),
                          "start: 1 many", "look 0: 0 many", f"turn {number}: 0 0", scale=MANY)
        self.demanded("(program (inputs (b many)) (repeat 1 x many b (add x (add x 1))))", (5,),
                      "start: many", "turn 1 1: many many", "look 1: many 1", "turn 0: many 1", "look 0: many 1",
                      "look 1: many 0", "turn 0: 1 0", "look 0: 0 0", scale=MANY)

    def test_cells_in_the_contents_of_later_cells(self):
        self.demanded("(program (inputs (a 6)) (call (fn x 6 int (call (fn y 3 int (add y (add y y))) (add x x))) a))",
                      (3,), "start: 6", "call 1: 6 6", "call 2: 6 6 3", "look 2: 6 6 2", "look 1: 6 5 2",
                      "look 0: 5 5 2", "look 1: 5 4 2", "look 0: 4 4 2", "look 2: 4 4 1", "look 1: 4 3 1",
                      "look 0: 3 3 1", "look 1: 3 2 1", "look 0: 2 2 1", "look 2: 2 2 0", "look 1: 2 1 0",
                      "look 0: 1 1 0",
                      "look 1: 1 0 0", "look 0: 0 0 0")

    def test_products_have_the_demand_on_the_left(self):
        scale = RelationScale(2)
        used = "(unbox z (box 0010 a) 5)"
        self.demanded(f"(program (inputs (a 1111)) (unbox x (box 1111 {used}) (unbox y (box 0100 x) 1)))", (3,),
                      "start: 1010", "open 1: 1000 0100", "open 2: 0000 0000 0000", scale=scale)
        functions = "(test c (fn x 0100 int 1) (fn x 0100 int 2))"
        self.demanded(f"(program (inputs (a 1111) (c 1111)) (call {functions} {used}))", (3, 0),
                      "start: 1000 1001", "look 1: 1000 0000", "test False: 1000 0000", "call 2: 0000 0000 0000",
                      scale=scale)

    def test_programs_without_cells_or_moves(self):
        machine = machine_of("(program (inputs) (repeat 3 x 0 1 2))")
        self.assertEqual(machine.demands(), [])
        self.demanded("(program (inputs (a 0)) (sub 3 2))", (1,), "start: 0")

    def test_the_list_belongs_to_the_caller(self):
        machine = machine_of("(program (inputs (a 1) (b 1)) (add a b))", 1, 2)
        machine.step()
        found = machine.demands()
        found[0] = found[1]
        found.append(None)
        self.assertEqual([grade.name for grade in machine.demands()], ["0", "1"])
        self.assertEqual(machine.finish(), 3)


class RandomTest(unittest.TestCase):
    def test_demands_at_each_moment(self):
        """The demands are those of the plain machine, and with the looks they lie within the grades."""
        moments = 0
        for scale in checking_scales():
            for inputs, term, values, derivation in short_programs(scale, 60):
                numbers = list(values.values())
                machine = Machine(scale, inputs, derivation, numbers)
                plain = PlainMachine(scale, inputs, derivation, numbers)
                for _ in range(60):
                    demands = machine.demands()
                    self.assertEqual(demands, plain.demands(), (scale.label, inputs, term))
                    for cell, demand in enumerate(demands):
                        held = machine.looks(cell) * Grade.one(scale) + demand
                        self.assertTrue(held <= machine.grade_of(cell), (scale.label, inputs, term))
                    moments += 1
                    move = machine.step()
                    self.assertEqual(move, plain.step())
                    if move is None:
                        self.assertEqual(machine.demands(), [Grade.zero(scale)] * len(machine))
                        break
        self.assertGreater(moments, 3000)


class FreedTest(unittest.TestCase):
    def freed_after(self, scale, grade, looks):
        """An input of the grade is freed after that many looks, and never sooner; None is for never."""
        reached = looks if looks is not None else 5
        uses = "0"
        for _ in range(reached):
            uses = f"(add a {uses})"
        machine = machine_of(f"(program (inputs (a {grade})) {uses})", 1, scale=scale)
        for count in range(reached):
            self.assertFalse(machine.freed(0), (scale.label, grade, count))
            machine.step()
        self.assertIs(machine.freed(0), looks is not None, (scale.label, grade))
        machine.finish()
        self.assertIs(machine.freed(0), looks is not None)

    def test_inputs(self):
        for grade in range(4):
            self.freed_after(ExactTally(), grade, grade)
            self.freed_after(MostTally(), grade, grade)
            self.freed_after(LeastTally(), grade, None)
            self.freed_after(PairScale(LeastTally(), MostTally()), f"<0/{grade}>", grade)
        for scale, grade, looks in (
                (MANY, "0", 0), (MANY, "1", 1), (MANY, "many", None), (CutScale(2), "1", 1),
                (CutScale(0), "many", None), (TurnedScale(MANY), "0", None),
                (LevelScale(3), "2", None), (LevelScale(3), "0", 0), (SubsetScale(2), "11", None),
                (SubsetScale(2), "00", 0)):
            self.freed_after(scale, grade, looks)

    def test_a_grade_may_fit_after_counts_that_do_not(self):
        machine = machine_of("(program (inputs (a 1)) a)", 5, scale=CutScale(1, period=3))
        self.assertEqual((machine.freed(0), machine.finish(), machine.freed(0)), (False, 5, False))
        machine = machine_of("(program (inputs (a many)) (add a a))", 5, scale=CutScale(2))
        self.assertEqual((machine.freed(0), machine.finish(), machine.freed(0)), (False, 10, False))

    def test_an_idle_grade_that_is_not_zero(self):
        scale = RelationScale(2)
        for grade in ("0000", "0100", "1000", "0111"):
            machine = machine_of(f"(program (inputs (a {grade})) (unbox x (box {grade} a) 5))", 1, scale=scale)
            self.assertTrue(machine.freed(0))
            self.assertEqual(machine.step(), ("open", 1))
            self.assertTrue(machine.freed(1))
            self.assertEqual((machine.finish(), machine.looks(0)), (5, 0))

    def test_cells_that_are_freed_when_they_are_made_or_at_a_look(self):
        machine = machine_of("(program (inputs (a 2)) (call (fn x 2 int (call (fn y 0 int (add x x)) 5)) a))", 3)
        found = []
        while True:
            found.append("".join("x" if machine.freed(cell) else "." for cell in range(len(machine))))
            if machine.step() is None:
                break
        self.assertEqual(found, [".", "..", "..x", "..x", "..x", ".xx", "xxx"])

    def test_freed_cells_keep_their_demands(self):
        machine = machine_of("(program (inputs (a 0)) (call (fn x 0 int 5) a))", 3)
        self.assertEqual((machine.step(), machine.freed(1), len(machine.demands())), (("call", 1), True, 2))
        machine = machine_of("(program (inputs (a 2) (b 1)) (call (fn x 1 int (add b (mul x 1))) (add a a)))", 3, 4)
        steps_of(machine)
        self.assertEqual([grade.name for grade in machine.demands()], ["0", "0", "0"])

    def test_programs_on_all_scales(self):
        """A freed cell is never looked at, no cell is taken back, and an exact tally frees all."""
        freed = 0
        for scale in checking_scales():
            for inputs, term, values, derivation in short_programs(scale, 60):
                machine = Machine(scale, inputs, derivation, list(values.values()))
                before = [machine.freed(cell) for cell in range(len(machine))]
                for _ in range(80):
                    move = machine.step()
                    if move is None:
                        break
                    if move[0] == "look":
                        self.assertFalse(before[move[1]], (scale.label, inputs, term))
                    after = [machine.freed(cell) for cell in range(len(machine))]
                    self.assertTrue(all(now or not old for old, now in zip(before, after)))
                    for cell, told in enumerate(after):
                        self.assertIs(told, not machine.grade_of(cell).room(machine.looks(cell)))
                    before = after
                machine.finish(10 ** 5)
                cells = range(len(machine))
                for cell in cells:
                    self.assertTrue(machine.grade_of(cell).fits(machine.looks(cell)), (scale.label, inputs, term))
                if scale.label == "(tally same)":
                    self.assertTrue(all(machine.freed(cell) for cell in cells))
                    self.assertEqual([str(machine.looks(cell)) for cell in cells],
                                     [machine.grade_of(cell).name for cell in cells])
                freed += sum(before)
        self.assertGreater(freed, 500)

    def test_inputs_with_idle_grades_have_no_influence(self):
        found = 0
        for scale in checking_scales():
            for inputs, term, values, derivation in short_programs(scale, 60):
                idle = [name for name, grade in inputs if Grade.named(scale, grade).idle]
                if not idle:
                    continue
                found += 1
                told = []
                for change in (0, 1, -10 ** 20):
                    numbers = {name: number + (change if name in idle else 0) for name, number in values.items()}
                    machine = Machine(scale, inputs, derivation, list(numbers.values()))
                    told.append((steps_of(machine), told_machine(machine), run_plain(term, numbers)))
                    self.assertEqual({machine.looks(at) for at, (name, _) in enumerate(inputs) if name in idle}, {0})
                self.assertTrue(told[0] == told[1] == told[2], (scale.label, inputs, term))
        self.assertGreater(found, 100)


if __name__ == "__main__":
    unittest.main()
