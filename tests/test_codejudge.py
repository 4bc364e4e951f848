import copy
import unittest

from made_codes import BOX, CONST, EITHER, FUN, INT, LOOK, LOOKS, PAIR, TWICE, Changer, block, own_codes
from made_terms import checking_scales
from plain_judge import plain_judge
from runs import short_programs
from usescale.codejudge import judge_code
from usescale.compiling import compile_code
from usescale.errors import BadCode
from usescale.families import CutScale, LevelScale, RelationScale
from usescale.tallies import ExactTally, LeastTally, MostTally

MOST = MostTally()
PAIRS = block("1 1", INT, LOOK, ("look", 1), ("add",))


def judged(code, scale=MOST):
    """None, or the block and the row of the first rule that is broken."""
    before = copy.deepcopy(code)
    try:
        found = judge_code(scale, code)
    except BadCode as error:
        found = (error.block, error.row)
    assert code == before
    return found


class RuleTest(unittest.TestCase):
    def judges(self, where, *blocks, scale=MOST):
        self.assertEqual(judged(list(blocks), scale), where, blocks)
        self.assertEqual(plain_judge(scale, list(blocks)), where, blocks)

    def program(self, where, slots, *rows, more=(), scale=MOST):
        """A program whose other blocks are told by more."""
        self.judges(where, block(slots, INT, *rows), *more, scale=scale)

    def test_codes_without_blocks(self):
        self.judges((0, -1))

    def test_own_codes_are_accepted(self):
        for code, _, _, _, _ in own_codes():
            self.judges(None, *code)

    def test_grades_in_heads(self):
        self.judges((0, -1), block("1 zz", INT, ("push", 1)))
        self.judges((0, -1), block("?", INT, ("push", 1)))
        self.judges((0, -1), block("01", INT, ("push", 1)))
        for kind in (("box", "zz", INT), ("fun", "?", INT, INT),
                     ("pair", INT, ("fun", "1", INT, ("box", "many", INT)))):
            self.judges((1, -1), CONST, block([(INT, "1"), (kind, "1")], INT, ("push", 1)))
            self.judges((2, -1), CONST, CONST, block("", kind, ("push", 1)))
        self.judges(None, CONST, block([(INT, "1"), (BOX, "1")], INT, ("push", 1)))

    def test_block_0_has_integers_alone(self):
        for kind in (PAIR, BOX, FUN, EITHER):
            self.judges((0, -1), block([(INT, "1"), (kind, "1")], INT, ("push", 1)))
            self.judges((0, -1), block("", kind, ("push", 1)))
            self.judges(None, CONST, block([(kind, "1")], kind, LOOK))

    def test_push_and_look(self):
        self.program(None, "", ("push", -10 ** 40))
        self.program(None, "1", LOOK)
        self.program((0, 0), "", LOOK)
        self.program((0, 0), "1", ("look", 1))
        self.program((0, 0), "1", ("look", -1))
        self.program((0, 2), "1", ("push", 1), ("push", 2), ("look", 5))

    def test_operations(self):
        for word in ("add", "sub", "mul"):
            self.program(None, "", ("push", 1), ("push", 2), (word,))
            self.program((0, 0), "", (word,))
            self.program((0, 1), "", ("push", 1), (word,), ("push", 2))
            self.program((0, 2), "", ("push", 1), ("fn", "1", INT, 1, ()), (word,), more=[LOOKS])
            self.program((0, 2), "", ("fn", "1", INT, 1, ()), ("push", 1), (word,), more=[LOOKS])

    def test_functions(self):
        call = ("call", 2, ())
        self.program(None, "", ("fn", "2", INT, 1, ()), call, more=[TWICE, CONST])
        self.program(None, "", ("fn", "5", INT, 1, ()), call, more=[TWICE, CONST])
        for row in (("fn", "zz", INT, 1, ()), ("fn", "?", INT, 1, ()), ("fn", "1", INT, 1, ()),
                    ("fn", "2", BOX, 1, ()), ("fn", "2", ("box", "zz", INT), 1, ()), ("fn", "2", INT, 0, ()),
                    ("fn", "2", INT, 3, ()), ("fn", "2", INT, -1, ()), ("fn", "2", INT, 1, (0,)),
                    ("fn", "2", INT, 2, ())):
            self.program((0, 0), "", row, call, more=[TWICE, CONST])
        self.program(None, "1", ("fn", "1", INT, 1, (0,)), call, more=[PAIRS, CONST])
        for take in ((), (1,), (-1,), (0, 0)):
            self.program((0, 0), "1", ("fn", "1", INT, 1, take), call, more=[PAIRS, CONST])
        boxes = block([(BOX, "1"), (INT, "1")], INT, ("look", 1))
        self.program((0, 0), "1", ("fn", "1", INT, 1, (0,)), call, more=[boxes, CONST])

    def test_calls(self):
        fn = ("fn", "2", INT, 1, ())
        self.program(None, "2", fn, ("call", 2, (0,)), more=[TWICE, LOOKS])
        for row in (("call", 2, ()), ("call", 2, (0, 0)), ("call", 2, (1,)), ("call", 0, (0,)), ("call", 3, (0,)),
                    ("call", -1, (0,))):
            self.program((0, 1), "2", fn, row, more=[TWICE, LOOKS])
        self.program((0, 1), "2", fn, ("call", 2, (0,)), more=[TWICE, block("1", BOX, ("push", 1))])
        self.program((0, 0), "2", ("call", 2, (0,)), more=[TWICE, LOOKS])
        self.program((0, 2), "2", fn, ("push", 1), ("call", 2, (0,)), more=[TWICE, LOOKS])
        self.program((0, 2), "1", fn, ("call", 2, (0,)), more=[TWICE, LOOKS])

    def test_a_call_uses_as_much_as_the_kind_of_the_function_says(self):
        rows = [("fn", "2", INT, 1, ()), ("as", ("fun", "3", INT, INT)), ("call", 2, (0,))]
        self.program(None, "3", *rows, more=[TWICE, LOOKS])
        self.program((0, 3), "2", *rows, more=[TWICE, LOOKS])

    def test_pairs(self):
        rest = (("split",), ("look", 1), ("look", 2), ("mul",))
        self.program(None, "3", ("pair", 1, (0,), 2, (0,)), *rest, more=[TWICE, LOOKS])
        self.program((0, 5), "2", ("pair", 1, (0,), 2, (0,)), *rest, more=[TWICE, LOOKS])
        for row in (("pair", 1, (), 2, (0,)), ("pair", 1, (0,), 2, (1,)), ("pair", 1, (0,), 3, (0,)),
                    ("pair", 0, (0,), 2, (0,)), ("pair", 1, (0,), 2, (0, 0))):
            self.program((0, 0), "3", row, *rest, more=[TWICE, LOOKS])

    def test_splits(self):
        pair = ("pair", 1, (), 1, ())
        self.program(None, "", pair, ("split",), LOOK, ("look", 1), ("sub",), more=[CONST])
        self.program((0, 0), "", ("split",), more=[CONST])
        self.program((0, 2), "", pair, ("push", 1), ("split",), more=[CONST])
        self.program((0, 1), "", pair, LOOK, ("split",), more=[CONST])
        self.program((0, 2), "", pair, ("split",), ("look", 2), more=[CONST])
        # What is made by a split may be used as often as one says, also when it is handed on.
        self.program((0, 5), "", pair, ("split",), LOOK, LOOK, ("add",), more=[CONST])
        self.program((0, 4), "", pair, ("split",), ("fn", "9", INT, 2, (1,)), ("call", 1, ()),
                     more=[CONST, block("2 9", INT, LOOK, LOOK, ("add",))])
        self.program((0, 2), "", pair, ("split",), scale=ExactTally(), more=[CONST])
        self.program((0, 3), "", pair, ("split",), LOOK, scale=ExactTally(), more=[CONST])

    def test_sides(self):
        rest = (("case", 2, (), 3, ()),)
        constant = block("1", INT, ("push", 5))
        boxed = block([(BOX, "1")], INT, ("push", 6))
        self.program(None, "1", ("left", BOX, 1, (0,)), *rest, more=[LOOKS, constant, boxed])
        self.program(None, "1", ("right", BOX, 1, (0,)), *rest, more=[LOOKS, boxed, constant])
        self.program((0, 1), "1", ("right", BOX, 1, (0,)), *rest, more=[LOOKS, constant, boxed])
        for word in ("left", "right"):
            for row in ((word, ("box", "?", INT), 1, (0,)), (word, BOX, 0, (0,)), (word, BOX, 4, (0,)),
                        (word, BOX, 1, ()), (word, BOX, 1, (1,)), (word, BOX, 1, (0, 0))):
                self.program((0, 0), "1", row, *rest, more=[LOOKS, constant, boxed])
            self.program((0, 2), "0", (word, INT, 1, (0,)), *rest, more=[LOOKS, constant, constant])

    def test_cases(self):
        left = ("left", INT, 1, ())
        self.program(None, "1", left, ("case", 2, (), 3, (0,)), more=[CONST, LOOKS, PAIRS])
        self.program((0, 2), "0", left, ("case", 2, (), 3, (0,)), more=[CONST, LOOKS, PAIRS])
        for row in (("case", 2, (), 3, ()), ("case", 2, (0,), 3, (0,)), ("case", 2, (), 0, (0,)),
                    ("case", 2, (), 4, ()), ("case", 2, (), 3, (1,)), ("case", 1, (), 3, (0,))):
            self.program((0, 1), "1", left, row, more=[CONST, LOOKS, PAIRS])
        self.program((0, 0), "", ("case", 1, (), 1, ()), more=[LOOKS])
        self.program((0, 2), "", left, ("push", 1), ("case", 2, (), 2, ()), more=[CONST, LOOKS])
        self.program((0, 1), "", left, ("case", 2, (), 3, ()), more=[CONST, LOOKS, TWICE])
        self.program((0, 1), "", left, ("case", 3, (), 2, ()), more=[CONST, LOOKS, TWICE])
        boxed = block([(BOX, "1")], INT, ("push", 6))
        self.program((0, 1), "", left, ("case", 2, (), 3, ()), more=[CONST, boxed, LOOKS])
        self.program((0, 1), "", left, ("case", 3, (), 2, ()), more=[CONST, boxed, LOOKS])
        other = block("1", BOX, ("box", "2", 1, ()))
        self.program((0, 1), "", left, ("case", 2, (), 3, ()), more=[CONST, LOOKS, other])

    def test_boxes(self):
        rest = (("open",), ("look", 1))
        self.program(None, "3", ("box", "3", 1, (0,)), *rest, more=[LOOKS])
        self.program((0, 3), "2", ("box", "3", 1, (0,)), *rest, more=[LOOKS])
        self.program((0, 3), "0", ("box", "0", 1, (0,)), *rest, more=[LOOKS])
        for row in (("box", "zz", 1, (0,)), ("box", "?", 1, (0,)), ("box", "3", 0, (0,)), ("box", "3", 2, (0,)),
                    ("box", "3", 1, ()), ("box", "3", 1, (1,))):
            self.program((0, 0), "3", row, *rest, more=[LOOKS])

    def test_opens(self):
        looks = [("look", 0), ("look", 0), ("add",), ("look", 0), ("add",)]
        self.program(None, "", ("box", "3", 1, ()), ("open",), *looks, more=[CONST])
        self.program((0, 7), "", ("box", "2", 1, ()), ("open",), *looks, more=[CONST])
        self.program((0, 8), "", ("box", "3", 1, ()), ("as", BOX), ("open",), *looks, more=[CONST])
        self.program((0, 0), "", ("open",))
        self.program((0, 1), "", ("push", 1), ("open",))
        self.program((0, 2), "", ("box", "3", 1, ()), ("open",), ("look", 1), more=[CONST])

    def test_tests(self):
        self.program(None, "1 2", LOOK, ("test", 1, (1,), 2, (1,)), more=[TWICE, LOOKS])
        self.program((0, 2), "1 1", LOOK, ("test", 1, (1,), 2, (1,)), more=[TWICE, LOOKS])
        self.program((0, 2), "1 1", LOOK, ("test", 2, (1,), 1, (1,)), more=[TWICE, LOOKS])
        self.program((0, 1), "1", LOOK, ("test", 1, (1,), 2, (0,)), more=[TWICE, LOOKS])
        self.program((0, 1), "1 2", LOOK, ("test", 1, (1,), 2, ()), more=[TWICE, LOOKS])
        self.program((0, 1), "1 2", LOOK, ("test", 1, (1,), 3, (1,)), more=[TWICE, LOOKS])
        self.program((0, 1), "1 2", LOOK, ("test", 0, (0, 1), 2, (1,)), more=[TWICE, LOOKS])
        self.program((0, 0), "1 2", ("test", 1, (1,), 2, (1,)), more=[TWICE, LOOKS])
        boxes = block("1", BOX, ("box", "2", 4, ()))
        self.program((0, 1), "1 2", LOOK, ("test", 1, (1,), 3, (1,)), more=[TWICE, LOOKS, boxes, CONST])

    def test_repetitions(self):
        turns = ("repeat", "1", 1, (), 2, ())
        self.program(None, "", ("push", 3), turns, more=[CONST, LOOKS])
        self.program((0, 0), "", turns, more=[CONST, LOOKS])
        self.program(None, "", ("push", 3), ("repeat", "2", 1, (), 2, ()), more=[CONST, TWICE])
        self.program(None, "", ("push", 3), ("repeat", "7", 1, (), 2, ()), more=[CONST, TWICE])
        for row in (("repeat", "1", 1, (), 2, ()), ("repeat", "zz", 1, (), 2, ()), ("repeat", "?", 1, (), 2, ()),
                    ("repeat", "2", 1, (), 1, ()), ("repeat", "2", 2, (), 2, ()), ("repeat", "2", 1, (0,), 2, ()),
                    ("repeat", "2", 1, (), 2, (0,)), ("repeat", "2", 1, (), 3, ()), ("repeat", "2", 0, (), 2, ())):
            self.program((0, 1), "", ("push", 3), row, more=[CONST, TWICE])
        boxes = block("", BOX, ("box", "2", 1, ()))
        for first, second in ((boxes, LOOKS), (CONST, block([(BOX, "1")], BOX, LOOK)),
                              (CONST, block([(BOX, "1")], INT, ("push", 1))), (boxes, block("1", BOX, ("push", 1)))):
            self.program((0, 1), "", ("push", 3), turns, more=[first, second])

    def test_the_usage_of_turns(self):
        self.program(None, "1", ("push", 3), ("repeat", "1", 1, (0,), 2, ()), more=[LOOKS, LOOKS])
        self.program((0, 1), "9", ("push", 3), ("repeat", "1", 1, (), 2, (0,)), more=[CONST, PAIRS])
        self.program((0, 1), "9", ("push", 3), ("repeat", "2", 1, (0,), 2, ()), more=[LOOKS, LOOKS])
        self.program(None, "9", ("push", 3), ("repeat", "0", 1, (), 2, (0,)),
                     more=[CONST, block("1 0", INT, LOOK)])
        many = CutScale(2, order="up")
        self.program(None, "many", ("push", 3), ("repeat", "1", 1, (), 2, (0,)), more=[CONST, PAIRS], scale=many)
        self.program((0, 2), "1", ("push", 3), ("repeat", "1", 1, (), 2, (0,)), more=[CONST, PAIRS], scale=many)

    def test_as(self):
        fn, call = ("fn", "2", INT, 1, ()), ("call", 2, ())
        self.program(None, "", fn, ("as", FUN), ("as", ("fun", "5", INT, INT)), call, more=[TWICE, CONST])
        for kind in (("fun", "1", INT, INT), INT, ("fun", "zz", INT, INT), ("fun", "2", INT, BOX), PAIR, EITHER):
            self.program((0, 1), "", fn, ("as", kind), call, more=[TWICE, CONST])
        self.program((0, 0), "", ("as", INT), ("push", 1))
        self.program(None, "", ("push", 1), ("as", INT))

    def test_after_the_last_row(self):
        self.program((0, 0), "1")
        self.program((0, 2), "1", ("push", 1), LOOK)
        self.program((0, 1), "", ("fn", "1", INT, 1, ()), more=[LOOKS])
        self.judges((1, 1), CONST, block("1", BOX, LOOK))
        self.judges((2, 0), CONST, CONST, block([(BOX, "1")], BOX))
        self.program((0, 3), "1", LOOK, LOOK, ("add",))
        self.program((0, 1), "1", ("push", 1), scale=ExactTally())
        self.program(None, "1", ("push", 1), scale=MostTally())
        self.program(None, "1", LOOK, LOOK, ("add",), scale=LeastTally())
        self.judges((1, 3), CONST, block("1", INT, LOOK, LOOK, ("add",)))

    def test_the_sum_of_all_rows(self):
        rows = [LOOK, ("box", "2", 1, (0,)), ("open",), ("look", 1), ("add",), LOOK, ("mul",)]
        self.program(None, "4", *rows, more=[LOOKS])
        self.program((0, 7), "3", *rows, more=[LOOKS])
        self.program((0, 5), "1 1 1", LOOK, ("look", 2), ("add",), ("look", 2), ("sub",))

    def test_products_have_the_grade_on_the_left(self):
        scale = RelationScale(2)
        inner = block("0010", INT, ("push", 1))
        for slot, where in (("1000", None), ("0001", (0, 3)), ("1111", None), ("0000", (0, 3))):
            self.program(where, slot, ("push", 1), ("box", "0100", 1, (0,)), ("open",), more=[inner], scale=scale)
        for slot, where in (("1000", None), ("0001", (0, 2))):
            self.program(where, slot, ("fn", "0100", INT, 2, ()), ("call", 1, (0,)),
                         more=[inner, block("0100", INT, ("push", 1))], scale=scale)

    def test_bounds_that_do_not_exist(self):
        scale = ExactTally()
        test = ("test", 1, (0,), 2, (0,))
        self.program(None, "1", ("push", 1), test, more=[LOOKS, LOOKS], scale=scale)
        self.program((0, 1), "1", ("push", 1), test, more=[LOOKS, TWICE], scale=scale)
        self.program((0, 1), "1", ("push", 1), ("test", 1, (0,), 2, ()), more=[LOOKS, CONST], scale=scale)
        self.program((0, 1), "1", ("left", INT, 1, ()), ("case", 2, (), 3, (0,)), more=[CONST, LOOKS, PAIRS],
                     scale=scale)
        self.program((0, 1), "1", ("push", 1), ("repeat", "1", 1, (), 2, (0,)), more=[CONST, PAIRS], scale=scale)


class OrderTest(unittest.TestCase):
    def test_the_first_rule_that_is_broken(self):
        bad_head = block("zz", INT, ("push", 1))
        bad_row = block("", INT, ("push", 1), ("add",))
        bad_end = block("", INT, ("push", 1), ("push", 2))
        fine = CONST
        for blocks, where in (
                ([bad_row, fine, bad_head], (2, -1)), ([bad_end, bad_head, bad_head], (1, -1)),
                ([bad_head, bad_row, bad_head], (0, -1)), ([fine, bad_row, bad_row], (1, 1)),
                ([fine, bad_row, bad_end], (1, 1)), ([fine, bad_end, bad_end], (1, 2)),
                ([bad_row, bad_end], (0, 1)), ([fine, fine, bad_end], (2, 2)),
                ([block("1", INT, ("look", 1), ("look", 0), ("look", 0))], (0, 0)),
                ([block("1", INT, LOOK, LOOK, ("look", 1))], (0, 2)),
                ([block("0", INT, LOOK, ("push", 1))], (0, 2)),
                ([block("1", PAIR, ("look", 1))], (0, -1))):
            self.assertEqual(judged(blocks), where)
            self.assertEqual(plain_judge(MOST, blocks), where)

    def test_the_end_of_a_block_comes_ahead_of_the_rows_of_later_blocks(self):
        bad_row = block("", INT, ("push", 1), ("add",))
        bad_end = block("", INT, ("push", 1), ("push", 2))
        self.assertEqual(judged([bad_end, bad_row]), (0, 2))
        self.assertEqual(judged([CONST, bad_end, CONST, bad_row]), (1, 2))


class RandomTest(unittest.TestCase):
    def test_changed_codes(self):
        """Codes with something changed at random are judged as the document says."""
        places = {"accepted": 0, "head": 0, "row": 0, "end": 0}
        for scale in checking_scales():
            codes = [compile_code(scale, inputs, derivation)
                     for inputs, _, _, derivation in short_programs(scale, 40)]
            for at, code in enumerate(codes):
                self.assertIsNone(judged(code, scale))
                self.assertIsNone(plain_judge(scale, code))
                for seed in range(12):
                    changer = Changer(scale, 1000 * at + seed)
                    changed = changer.code(code)
                    if seed % 3 == 0 and changed:
                        changed = changer.code(changed)
                    wanted = plain_judge(scale, changed)
                    self.assertEqual(judged(changed, scale), wanted, (scale.label, changed))
                    places[self.place(changed, wanted)] += 1
        self.assertGreater(min(places.values()), 300)

    def place(self, code, where):
        if where is None:
            return "accepted"
        if where[1] == -1:
            return "head"
        return "end" if where[1] == len(code[where[0]][2]) else "row"

    def test_levels(self):
        scale = LevelScale(3)
        self.assertIsNone(judged([block("2", INT, LOOK, LOOK, ("add",))], scale))
        self.assertEqual(judged([block("1", INT, LOOK)], scale), (0, 1))


if __name__ == "__main__":
    unittest.main()
