import random
import unittest

from made_terms import checking_scales
from runs import machine_of, short_programs, steps_of, told_machine
from usescale.errors import NotDone, OutOfMoves
from usescale.machine import Machine

TEXTS = (
    ("(program (inputs (a 2) (b 1)) (call (fn x 2 int (add x (mul x b))) a))", (3, 4)),
    ("(program (inputs (a 1)) (repeat 3 x 1 a (add x 1)))", (5,)),
    ("(program (inputs) (repeat 2 x 2 3 (add x x)))", ()),
    ("(program (inputs (a 2)) (unbox x (box 2 a) (split y z (pair x x) (case (left int y) u (add u z) v (sub v z)))))",
     (7,)),
    ("(program (inputs (a 1) (b 1)) (test a (split x y (pair 1 b) (mul x y)) (sub 0 b)))", (1, 2)),
)


def snapshots_of(make):
    """What a new machine tells after each number of moves, with the moves, and what it tells at the end."""
    machine = make()
    told, moves = [told_machine(machine)], []
    while True:
        move = machine.step()
        if move is None:
            return told, moves, told_machine(machine)
        moves.append(move)
        told.append(told_machine(machine))


class BackTest(unittest.TestCase):
    def test_at_the_start(self):
        for text, values in TEXTS:
            machine = machine_of(text, *values)
            before = told_machine(machine)
            for _ in range(2):
                self.assertIs(machine.back(), False)
                self.assertEqual(told_machine(machine), before)
            self.assertEqual(steps_of(machine), steps_of(machine_of(text, *values)))

    def test_a_run_without_moves(self):
        machine = machine_of("(program (inputs (a 0)) (add 1 2))", 5)
        self.assertIs(machine.back(), False)
        self.assertFalse(machine.done)
        self.assertIsNone(machine.step())
        before = told_machine(machine)
        self.assertIs(machine.back(), False)
        self.assertEqual(told_machine(machine), before)
        self.assertEqual((machine.done, machine.answer, machine.step()), (True, 3, None))

    def test_from_the_end_to_the_start(self):
        for text, values in TEXTS:
            told, moves, end = snapshots_of(lambda: machine_of(text, *values))
            machine = machine_of(text, *values)
            machine.finish()
            self.assertEqual(told_machine(machine), end)
            for many in reversed(range(len(moves))):
                self.assertIs(machine.back(), True)
                self.assertFalse(machine.done)
                with self.assertRaises(NotDone):
                    machine.answer
                self.assertEqual(told_machine(machine), told[many])
            self.assertIs(machine.back(), False)
            self.assertEqual((steps_of(machine), told_machine(machine)), (moves, end))

    def test_one_move_back_and_on_again(self):
        for text, values in TEXTS:
            told, moves, _ = snapshots_of(lambda: machine_of(text, *values))
            machine = machine_of(text, *values)
            for many, move in enumerate(moves):
                self.assertEqual(machine.step(), move)
                self.assertTrue(machine.back())
                self.assertEqual(told_machine(machine), told[many])
                self.assertEqual(machine.step(), move)
            self.assertIsNone(machine.step())

    def test_after_a_run_out_of_moves(self):
        machine = machine_of("(program (inputs (a 1)) (repeat 3 x 1 a (add x 1)))", 5)
        with self.assertRaises(OutOfMoves):
            machine.finish(4)
        self.assertTrue(machine.back())
        self.assertEqual(machine.step(), ("look", 2))
        self.assertEqual(machine.finish(8), 8)
        self.assertTrue(machine.back())
        with self.assertRaises(OutOfMoves):
            machine.finish(7)
        self.assertEqual(machine.finish(8), 8)

    def test_a_long_run(self):
        machine = machine_of("(program (inputs) (repeat 999 x 1 0 (add x 1)))")
        self.assertEqual(machine.finish(), 999)
        for _ in range(1999):
            self.assertTrue(machine.back())
        self.assertFalse(machine.back())
        self.assertEqual((len(machine), machine.demands()), (0, []))
        self.assertEqual((machine.step(), machine.finish()), (("turn", 999, 0), 999))

    def test_mixes_on_all_scales(self):
        source = random.Random(5)
        walked = 0
        for scale in checking_scales():
            for inputs, term, values, derivation in short_programs(scale, 25):
                numbers = list(values.values())
                whole = Machine(scale, inputs, derivation, numbers)
                if len(steps_of(whole)) > 60:
                    continue
                told, moves, end = snapshots_of(lambda: Machine(scale, inputs, derivation, numbers))
                walked += self.walk(source, Machine(scale, inputs, derivation, numbers), told, moves, end)
        self.assertGreater(walked, 3000)

    def walk(self, source, machine, told, moves, end):
        """Makes and takes back moves at random; tells how often something was done."""
        at, over = 0, False
        for _ in range(20 if moves else 4):
            act = source.choice(("step", "step", "step", "back", "back", "finish"))
            if act == "step":
                self.assertEqual(machine.step(), moves[at] if at < len(moves) else None)
                over = over or at == len(moves)
                at = min(at + 1, len(moves))
            elif act == "back":
                self.assertIs(machine.back(), at > 0)
                over = over and at == 0
                at = max(at - 1, 0)
            else:
                limit = source.randint(0, len(moves) + 1)
                over = self.finished(machine, limit, at == len(moves) or limit >= len(moves))
                at = len(moves) if over else max(at, limit)
            self.assertEqual(told_machine(machine), end if over else told[at])
        return 20

    def finished(self, machine, limit, over):
        if over:
            machine.finish(limit)
            return True
        with self.assertRaises(OutOfMoves) as caught:
            machine.finish(limit)
        self.assertEqual(caught.exception.bound, limit)
        return False


if __name__ == "__main__":
    unittest.main()
