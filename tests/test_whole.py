"""What the document promises over the whole program: points 1 and 35."""

import copy
import unittest

from helpers import family_scales, made_scales
from made_terms import Maker, checking_scales
from plain_check import INT, told_tree
from runs import kinds_of, short_programs, steps_of, told_cells
from usescale.checker import check, check_program, check_under
from usescale.codejudge import judge_code
from usescale.codemachine import CodeMachine
from usescale.compiling import compile_code
from usescale.derivations import Derivation, accepts, filled
from usescale.erasing import erase
from usescale.errors import InUse, NameMissing, UsescaleError
from usescale.families import LevelScale
from usescale.faults import first_fault
from usescale.grades import Grade
from usescale.kinds import fits
from usescale.machine import Machine
from usescale.maps import CountMap, ScaleMap, carry_kind, carry_term, carry_usage, regular_maps
from usescale.plain import run_plain
from usescale.reader import read_program, read_term
from usescale.rewriting import redexes, rewrite, rewrite_all
from usescale.scales import TableScale
from usescale.tallies import ExactTally
from usescale.terms import alike, free_names, substitute, term_depth, term_size
from usescale.usages import Usage
from usescale.workbook import Workbook
from usescale.writer import write_kind, write_program, write_term


def all_scales():
    """Regular scales of all families, of tallies, and of scales made of scales, each once."""
    found = {scale.label: scale for scale in checking_scales() + family_scales() + made_scales()}
    return list(found.values())


class PromiseTest(unittest.TestCase):
    """Point 35 on scales of all families."""

    def test_programs(self):
        moments, cells = 0, 0
        for scale in all_scales():
            programs = short_programs(scale, 60, most=120)
            self.assertGreater(len(programs), 40, scale.label)
            for inputs, term, values, derivation in programs:
                machine = Machine(scale, inputs, derivation, list(values.values()))
                moments += self.holds(scale, machine)
                cells += len(machine)
                answer, looks, words = run_plain(term, values)
                again = Machine(scale, inputs, derivation, list(values.values()))
                self.assertEqual([move[0] for move in steps_of(again)], words)
                self.assertEqual((machine.answer, again.answer), (answer, answer))
                self.assertEqual([machine.looks(at) for at in range(len(inputs))], list(looks.values()))
                self.assertEqual(run_plain(erase(scale, derivation), values), (answer, looks, words))
        self.assertGreater(moments, 5000)
        self.assertGreater(cells, 2000)

    def holds(self, scale, machine):
        """At each moment looks and demand lie within the grade; freed cells are not looked at; gives the moments."""
        moments = 0
        while True:
            demands = machine.demands()
            freed = [machine.freed(cell) for cell in range(len(machine))]
            for cell, demand in enumerate(demands):
                looks = Grade(scale, scale.times_at(machine.looks(cell)))
                self.assertTrue(looks + demand <= machine.grade_of(cell), scale.label)
            moments += 1
            move = machine.step()
            if move is None:
                break
            self.assertFalse(move[0] == "look" and freed[move[1]], scale.label)
        for cell in range(len(machine)):
            self.assertTrue(machine.grade_of(cell).fits(machine.looks(cell)), scale.label)
            if scale.label == "(tally same)":
                self.assertEqual((str(machine.looks(cell)), machine.freed(cell)), (machine.grade_of(cell).name, True))
        return moments

    def test_programs_that_are_wanted_at_a_grade(self):
        looked = 0
        for scale in all_scales():
            for seed in range(25):
                maker = Maker(scale, seed)
                under = Grade.named(scale, maker.grade())
                inputs, term, values = maker.program(4)
                try:
                    usage = under * check(scale, term, kinds_of(inputs)).usage
                    inputs = [(name, usage[name].name) for name, _ in inputs]
                    check_under(scale, inputs, term, under.name)
                    _, looks, _ = run_plain(term, values)
                except (UsescaleError, NameMissing):
                    continue
                for name, grade in inputs:
                    total = Grade.zero(scale)
                    for _ in range(looks[name]):
                        total = total + under
                    self.assertTrue(total <= Grade.named(scale, grade), (scale.label, inputs, term))
                    looked += looks[name]
        self.assertGreater(looked, 150)


class ArgumentTest(unittest.TestCase):
    """Point 1: no function modifies its arguments, and what is returned belongs to the caller."""

    def test_no_function_modifies_its_arguments(self):
        for scale in (ExactTally(), *checking_scales()[3:9]):
            for inputs, term, values, derivation in short_programs(scale, 12):
                context, numbers = kinds_of(inputs), list(values.values())
                told = [inputs, term, values, context, numbers]
                before = copy.deepcopy(told), told_tree(scale, derivation)
                self.call_all(scale, inputs, term, values, derivation, context, numbers)
                self.assertEqual((told, told_tree(scale, derivation)), before)

    def call_all(self, scale, inputs, term, values, derivation, context, numbers):
        check(scale, term, context)
        check_program(scale, inputs, term)
        accepts(scale, derivation, context)
        free_names(term), term_size(term), term_depth(term), alike(term, term), filled(derivation)
        images = {name: ("add", ("name", "q"), ("name", name)) for name in context}
        kept = copy.deepcopy(images)
        substitute(term, images)
        self.assertEqual(images, kept)
        fits(scale, derivation.kind, derivation.kind)
        write_term(term), write_kind(derivation.kind), write_program(inputs, term)
        run_plain(term, values)
        Machine(scale, inputs, derivation, numbers).finish()
        erase(scale, derivation)
        for place in redexes(term):
            rewrite(term, place)
        m = CountMap(scale) if scale.size is None else ScaleMap.same(scale)
        carry_term(m, term), carry_usage(m, derivation.usage), carry_kind(m, derivation.kind)
        code = compile_code(scale, inputs, derivation)
        kept = copy.deepcopy(code)
        judge_code(scale, code)
        CodeMachine(scale, code, [grade for _, grade in inputs], numbers).finish()
        self.assertEqual(code, kept)

    def test_what_is_returned_belongs_to_the_caller(self):
        inputs, term = read_program("(program (inputs (a 2)) (call (fn x 1 int (add x a)) (unbox y (box 1 a) y)))")
        scale = ExactTally()
        derivation = check_program(scale, inputs, term)
        machine = Machine(scale, inputs, derivation, [3])
        levels = LevelScale(2)
        book = Workbook(scale)
        book["b"], book["c"] = "1", "b"
        usage = derivation.usage
        for make in (lambda: levels.places(), lambda: usage.names(), lambda: free_names(term), lambda: redexes(term),
                     lambda: machine.demands(), lambda: regular_maps(levels, levels), book.names,
                     lambda: compile_code(scale, inputs, derivation), lambda: run_plain(term, {"a": 1})[2],
                     lambda: read_program("(program (inputs (a 1)) a)")[0], lambda: rewrite_all(term)[0]):
            first, wanted = make(), make()
            if isinstance(first, list):
                self.assertGreater(len(first), 0)
                first.clear()
            self.assertEqual(make(), wanted)
        looks = run_plain(term, {"a": 1})[1]
        looks["a"] = 9
        self.assertEqual(run_plain(term, {"a": 1})[1], {"a": 2})

    def test_what_is_handed_in_is_not_kept(self):
        context = {"a": INT}
        derivation = check(ExactTally(), read_term("(add a 1)"), context)
        context["a"] = ("pair", INT, INT)
        self.assertTrue(accepts(ExactTally(), derivation, {"a": INT}))
        parts = [derivation]
        outer = Derivation(("box", "0", derivation.term), Usage(ExactTally()), ("box", "0", INT), parts, grade="0")
        parts.clear()
        self.assertTrue(accepts(ExactTally(), outer, {"a": INT}))
        users = ["a", "b"]
        error = InUse("c", users)
        users.clear()
        self.assertEqual(error.users, ["a", "b"])
        tables = [[True]], [["a"]], [["a"]]
        names = ["a"]
        scale = TableScale(names, *tables, zero="a", one="a")
        for table in (*tables, names):
            table.clear()
        self.assertEqual((scale.label, scale.within_at(0, 0), scale.sum_at(0, 0), first_fault(scale)),
                         ("(table (a) a a (1) (a) (a))", True, 0, None))


if __name__ == "__main__":
    unittest.main()
