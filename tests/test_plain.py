import copy
import sys
import unittest

from made_terms import accepted_programs, checking_scales
from plain_run import plain_run
from usescale.errors import GoneReached, OutOfMoves
from usescale.grades import Grade
from usescale.plain import run_plain
from usescale.reader import read_term

LONG = 10 ** 30 + 7


def run(text, limit=2000, **values):
    return run_plain(read_term(text), values, limit)


class MoveTest(unittest.TestCase):
    def runs(self, text, answer, moves, **values):
        found = run(text, **values)
        self.assertEqual((found[0], found[2]), (answer, moves.split()), text)
        self.assertEqual(found, plain_run(read_term(text), values))
        return found[1]

    def test_integers_and_arithmetic_make_no_moves(self):
        self.runs("7", 7, "")
        self.runs("(add 1 (sub 2 (mul 3 -4)))", 15, "")
        self.runs("(sub 3 10)", -7, "")
        self.runs("(as int (add 1 2))", 3, "")
        self.assertEqual(run("(add 1 2)", limit=0), (3, {}, []))

    def test_looks_at_inputs(self):
        self.assertEqual(self.runs("a", 5, "look", a=5), {"a": 1})
        self.assertEqual(self.runs("(add a (mul b a))", 24, "look look look", a=4, b=5, c=9), {"a": 2, "b": 1, "c": 0})
        self.assertEqual(self.runs("3", 3, "", a=1, b=2), {"a": 0, "b": 0})
        self.assertEqual(list(run("(add b a)", b=1, c=2, a=3)[1]), ["b", "c", "a"])

    def test_operands_from_left_to_right(self):
        for word, answer in (("add", 9), ("sub", 1), ("mul", 20)):
            self.runs(f"({word} (test a 5 6) (call (fn x 1 int x) 4))", answer, "look test call look", a=1)

    def test_calls(self):
        self.runs("(call (fn x 2 int (add x x)) 4)", 8, "call look look")
        self.runs("(call (fn x 2 int (add x x)) (add a 1))", 8, "call look look look look", a=3)
        self.runs("(call (fn x 0 int 7) a)", 7, "call", a=3)
        self.runs("(call (call (fn x 1 int (fn y 1 int (sub x y))) 10) 3)", 7, "call call look look")
        self.runs("(call (fn f 1 (fun 1 int int) (call f 2)) (fn x 1 int (mul x x)))", 4, "call look call look look")
        self.runs("(call (test a (fn x 1 int x) (fn y 1 int (sub 0 y))) 5)", -5, "look test call look", a=0)

    def test_pairs(self):
        self.runs("(split x y (pair 1 (add a 2)) (sub y (mul x y)))", 0, "split look look look look look", a=3)
        self.runs("(split x y (pair a b) x)", 1, "split look look", a=1, b=2)
        self.runs("(split x y (pair a b) y)", 2, "split look look", a=1, b=2)
        self.runs("(split x y (test 1 (pair 1 2) (pair 3 4)) (add x y))", 3, "test split look look")
        self.runs("(split x x (pair 1 2) x)", 2, "split look")

    def test_choices(self):
        self.runs("(case (left int a) x (add x x) y 0)", 6, "choose look look look look", a=3)
        self.runs("(case (right int a) x 0 y (sub 1 y))", -2, "choose look look", a=3)
        self.runs("(case (left int 1) x 5 y 6)", 5, "choose")
        self.runs("(case (call (fn u 1 int (right int u)) 9) x 5 y y)", 9, "call choose look look")

    def test_boxes(self):
        self.runs("(unbox x (box 2 (add a 1)) (add x x))", 8, "open look look look look", a=3)
        self.runs("(unbox x (box 0 a) 5)", 5, "open", a=3)
        self.runs("(unbox x (unbox y (box 1 4) (box 1 y)) x)", 4, "open open look look")

    def test_tests(self):
        for number, answer in ((-1, 20), (0, 20), (1, 10), (LONG, 10), (-LONG, 20)):
            self.runs("(test a 10 20)", answer, "look test", a=number)
        self.runs("(test 1 a (gone int))", 7, "test look", a=7)

    def test_repetitions(self):
        self.runs("(repeat 0 x 1 9 (add x 1))", 9, "turn")
        self.runs("(repeat -3 x 1 9 (add x 1))", 9, "turn")
        self.runs("(repeat 1 x 1 9 (add x 1))", 10, "turn look turn")
        self.runs("(repeat 3 x 1 a (add x 1))", 8, "turn look turn look turn look turn look", a=5)
        self.runs("(repeat 5 x 0 9 4)", 4, "turn")
        self.runs("(repeat 2 x 2 3 (mul x x))", 81, "turn look turn look turn look turn look turn look turn look turn")
        self.runs("(repeat (add a 1) x 1 0 (add x 2))", 4, "look turn look turn look turn", a=1)

    def test_what_is_bound_is_evaluated_anew_at_every_look(self):
        self.assertEqual(self.runs("(call (fn x 3 int (add x (add x x))) (test a b 0))", 12,
                                   "call" + " look look test look" * 3, a=1, b=4), {"a": 3, "b": 3})
        self.assertEqual(self.runs("(split x y (pair a 1) (add x (add x x)))", 6, "split" + " look look" * 3, a=2),
                         {"a": 3})

    def test_values_keep_their_environment(self):
        self.runs("(call (call (fn x 1 int (fn y 1 int (call (fn x 1 int (sub x y)) 100))) 5) 7)", 93,
                  "call call call look look")
        self.runs("(split f g (pair (fn y 1 int (add x y)) 0) (call (fn x 1 int (call f x)) 50))", 51,
                  "split call look call look look look", x=1)
        self.runs("(unbox b (box 1 x) (call (fn x 1 int (sub x b)) 50))", 49, "open call look look look", x=1)
        self.runs("(case (left int x) c (call (fn x 1 int (sub x c)) 50) d 0)", 49, "choose call look look look", x=1)
        self.runs("(repeat 2 x 1 y (call (fn y 1 int (add x y)) 10))", 21,
                  "turn call look turn call look turn look look look", y=1)

    def test_inner_binders_hide_outer_ones(self):
        self.assertEqual(self.runs("(call (fn a 1 int a) (add a 1))", 3, "call look look", a=2), {"a": 1})
        self.assertEqual(self.runs("(repeat 1 a 1 a (add a a))", 4, "turn look turn look look turn look", a=2),
                         {"a": 2})
        self.assertEqual(self.runs("(unbox a (box 1 5) a)", 5, "open look", a=2), {"a": 0})


class EndTest(unittest.TestCase):
    def test_the_limit(self):
        for text, values in (("(repeat 3 x 1 a (add x 1))", {"a": 5}), ("(call (fn x 2 int (add x x)) a)", {"a": 1}),
                             ("(unbox x (box 1 1) (split y z (pair x x) (case (left int y) u (test u z 1) v v)))", {}),
                             ("3", {}), ("a", {"a": 1})):
            needed = len(run(text, **values)[2])
            self.assertEqual(len(run(text, limit=needed, **values)[2]), needed)
            for limit in range(needed):
                with self.assertRaises(OutOfMoves) as caught:
                    run(text, limit=limit, **values)
                self.assertEqual(caught.exception.bound, limit)

    def test_the_limit_when_none_is_told(self):
        self.assertEqual(len(run_plain(read_term("(repeat 999 x 1 a (add x 1))"), {"a": 1})[2]), 2000)
        with self.assertRaises(OutOfMoves) as caught:
            run_plain(read_term("(repeat 999 x 1 (add a a) (add x 1))"), {"a": 1})
        self.assertEqual(caught.exception.bound, 2000)
        self.assertEqual(run_plain(("name", "a"), {"a": 1}, limit=1), (1, {"a": 1}, ["look"]))

    def test_gone_terms(self):
        for text in ("(gone int)", "(add 1 (gone int))", "(call (fn x 1 int x) (gone int))", "(split x y (gone int) 1)",
                     "(repeat 1 x 1 1 (gone int))", "(call (gone (fun 1 int int)) 1)", "(as int (gone int))"):
            with self.assertRaises(GoneReached):
                run(text)
        for text in ("(call (fn x 1 int 3) (gone int))", "(test 0 (gone int) 3)", "(unbox x (box 0 (gone int)) 3)",
                     "(split x y (pair (gone int) 3) y)", "(repeat 0 x 1 3 (gone int))", "(repeat 1 x 0 (gone int) 3)",
                     "(case (left int (gone int)) x 3 y (gone int))"):
            self.assertEqual(run(text)[0], 3)
        with self.assertRaises(OutOfMoves):
            run("(call (fn x 1 int x) (gone int))", limit=1)
        with self.assertRaises(GoneReached):
            run("(call (fn x 1 int x) (gone int))", limit=2)

    def test_long_integers(self):
        self.assertEqual(run("(mul a (sub b a))", a=LONG, b=-LONG)[0], -2 * LONG * LONG)
        self.assertEqual(run("(repeat 6 x 2 a (mul x x))", a=LONG)[0], LONG ** 64)
        self.assertEqual(run(f"(test (sub {LONG} a) 1 2)", a=LONG + 1)[0], 2)
        self.assertEqual(run(f"(repeat (sub {LONG} a) x 1 0 (add x 1))", a=LONG - 3)[0], 3)

    def test_long_runs(self):
        self.assertEqual(run("(repeat 999 x 1 0 (add x 1))")[0], 999)
        self.assertEqual(run("(repeat 999 x 1 0 (add 1 x))")[0], 999)
        self.assertEqual(run("(repeat 2000 x 1 0 (add x 1))", limit=10 ** 4)[0], 2000)
        self.assertEqual(run("(repeat 20 x 1 0 (repeat 20 y 1 x (add 1 y)))")[0], 400)
        functions = "(call (repeat 300 f 1 (fn x 1 int x) (fn x 1 int (call f (add x 1)))) 0)"
        self.assertEqual(run(functions, limit=10 ** 5)[0], 300)
        boxes = "(unbox x (repeat 400 b 1 (box 1 a) (unbox y b (box 1 (add y 1)))) x)"
        self.assertEqual(run(boxes, a=5)[0], 405)

    def test_deep_terms(self):
        term = ("name", "a")
        for _ in range(500):
            term = ("add", ("int", 1), ("sub", term, ("int", 2)))
        self.assertEqual(run_plain(term, {"a": 0})[0], -500)
        for _ in range(100):
            term = ("call", ("fn", "x", "1", ("int",), ("name", "x")), term)
        self.assertEqual(run_plain(term, {"a": 0})[:2], (-500, {"a": 1}))
        for _ in range(100):
            term = ("as", ("int",), ("unbox", "x", ("box", "1", term), ("name", "x")))
        self.assertEqual(run_plain(term, {"a": 0})[0], -500)

    def test_arguments_stay_as_they_are(self):
        values = {"a": 1, "b": 2}
        term = read_term("(call (fn a 1 int (add a b)) (add a b))")
        before = copy.deepcopy((term, values))
        _, looks, moves = run_plain(term, values)
        looks["a"] = 9
        moves.append("q")
        self.assertEqual((term, values), before)
        self.assertEqual(run_plain(term, values)[1:], ({"a": 1, "b": 2}, ["call", "look", "look", "look", "look"]))


class RandomTest(unittest.TestCase):
    def test_accepted_programs(self):
        limit = sys.getrecursionlimit()
        sys.setrecursionlimit(20000)
        self.addCleanup(sys.setrecursionlimit, limit)
        words = {}
        for scale in checking_scales():
            for inputs, term, values in accepted_programs(scale, 40, depth=5):
                found = run_plain(term, values)
                self.assertEqual(found, plain_run(term, values), (term, values))
                for word in found[2]:
                    words[word] = words.get(word, 0) + 1
                for name, grade in inputs:
                    self.assertTrue(Grade.named(scale, grade).fits(found[1][name]), (scale.label, inputs, term))
                self.assertEqual(list(found[1]), list(values))
                many = len(found[2])
                if many:
                    with self.assertRaises(OutOfMoves):
                        run_plain(term, values, many - 1)
        self.assertEqual(sorted(words), ["call", "choose", "look", "open", "split", "test", "turn"])
        self.assertGreater(min(words.values()), 100)


if __name__ == "__main__":
    unittest.main()
