"""The names, arguments and places of definition that the document's interface lists."""

import importlib
import inspect
import unittest

from usescale.codemachine import CodeMachine
from usescale.errors import UsescaleError
from usescale.grades import Grade
from usescale.machine import Machine
from usescale.maps import ScaleMap
from usescale.scales import Scale
from usescale.usages import Usage
from usescale.workbook import Workbook

SCALE_METHODS = {
    "places": "(self)", "sum_at": "(self, first, second)", "product_at": "(self, first, second)",
    "within_at": "(self, first, second)", "bound_at": "(self, first, second)", "name_at": "(self, place)",
    "at_name": "(self, name)", "times_at": "(self, count)", "turns_at": "(self, start, extra, factor)",
}

CLASSES = {
    "usescale.scales": {
        "Scale": SCALE_METHODS,
        "TableScale": {"__init__": "(self, names, within, sums, products, *, zero, one)"},
    },
    "usescale.families": {
        "CutScale": {"__init__": "(self, start, *, period=1, order='same')"},
        "LevelScale": {"__init__": "(self, count)"},
        "SubsetScale": {"__init__": "(self, count)"},
        "SpanScale": {"__init__": "(self, start)"},
        "RelationScale": {"__init__": "(self, count)"},
        "PairScale": {"__init__": "(self, left, right)"},
        "TurnedScale": {"__init__": "(self, inner)"},
    },
    "usescale.tallies": {
        "ExactTally": {"__init__": "(self)"}, "MostTally": {"__init__": "(self)"}, "LeastTally": {"__init__": "(self)"},
    },
    "usescale.grades": {
        "Grade": {
            "__init__": "(self, scale, place)", "__add__": "(self, other)", "__mul__": "(self, other)",
            "__or__": "(self, other)", "__le__": "(self, other)", "__lt__": "(self, other)", "__eq__": "(self, other)",
            "__rmul__": "(self, other)", "__pow__": "(self, other)", "__str__": "(self)", "power": "(self, count)",
            "fits": "(self, count)", "room": "(self, count)", "named": "(scale, name)", "zero": "(scale)",
            "one": "(scale)", "idle": None,
        },
    },
    "usescale.usages": {
        "Usage": {
            "__init__": "(self, scale)", "__getitem__": "(self, at)", "__setitem__": "(self, at, worth)",
            "__contains__": "(self, x)", "__len__": "(self)", "__str__": "(self)", "__add__": "(self, other)",
            "__iadd__": "(self, other)", "__or__": "(self, other)", "__le__": "(self, other)",
            "__eq__": "(self, other)", "__rmul__": "(self, other)", "names": "(self)", "without": "(self, *names)",
            "copy": "(self)", "one_of": "(scale, name)", "total": "(scale, *usages)",
        },
    },
    "usescale.derivations": {
        "Derivation": {"__init__": "(self, term, usage, kind, parts, *, grade='', turns=None)"},
    },
    "usescale.machine": {
        "Machine": {
            "__init__": "(self, scale, inputs, derivation, values)", "step": "(self)", "back": "(self)",
            "finish": "(self, limit=2000)", "looks": "(self, cell)", "grade_of": "(self, cell)", "demands": "(self)",
            "freed": "(self, cell)", "__len__": "(self)", "done": None, "answer": None,
        },
    },
    "usescale.maps": {
        "ScaleMap": {
            "__init__": "(self, source, target, images)", "image": "(self, name)", "__call__": "(self, grade)",
            "fault": "(self)", "__mul__": "(self, other)", "__eq__": "(self, other)", "same": "(scale)",
        },
        "CountMap": {"__init__": "(self, target)", "image": "(self, name)", "__call__": "(self, grade)"},
        "HalfMap": {"__init__": "(self, source, side)", "image": "(self, name)", "__call__": "(self, grade)"},
    },
    "usescale.codemachine": {
        "CodeMachine": {
            "__init__": "(self, scale, code, grades, values)", "step": "(self)", "finish": "(self, limit=2000)",
            "looks": "(self, cell)", "grade_of": "(self, cell)", "freed": "(self, cell)", "__len__": "(self)",
            "done": None, "answer": None,
        },
    },
    "usescale.workbook": {
        "Workbook": {
            "__init__": "(self, scale, limit=2000)", "__getitem__": "(self, at)", "__setitem__": "(self, at, worth)",
            "__contains__": "(self, x)", "__len__": "(self)", "__iadd__": "(self, other)", "names": "(self)",
            "kind_of": "(self, name)", "term_of": "(self, name)", "drop": "(self, name)",
            "run": "(self, text, *values)", "carry": "(self, m)", "attempt": "(self, action)",
            "set_limit": "(self, bound)", "limit": None,
        },
    },
}

FUNCTIONS = {
    "usescale.faults": {"first_fault": "(scale)"},
    "usescale.labels": {"read_scale": "(text)"},
    "usescale.kinds": {"fits": "(scale, found, wanted)"},
    "usescale.terms": {
        "free_names": "(term)", "term_size": "(term)", "term_depth": "(term)", "alike": "(first, second)",
        "substitute": "(term, images)",
    },
    "usescale.reader": {"read_kind": "(text)", "read_term": "(text)", "read_program": "(text)"},
    "usescale.writer": {"write_kind": "(kind)", "write_term": "(term)", "write_program": "(inputs, term)"},
    "usescale.derivations": {"filled": "(derivation)", "accepts": "(scale, derivation, context=None)"},
    "usescale.checker": {
        "check": "(scale, term, context=None)", "check_program": "(scale, inputs, term)",
        "check_under": "(scale, inputs, term, under)",
    },
    "usescale.plain": {"run_plain": "(term, values, limit=2000)"},
    "usescale.erasing": {"erase": "(scale, derivation)"},
    "usescale.rewriting": {"redexes": "(term)", "rewrite": "(term, place)", "rewrite_all": "(term, limit=200)"},
    "usescale.maps": {
        "regular_maps": "(source, target)", "carry_kind": "(m, kind)", "carry_term": "(m, term)",
        "carry_usage": "(m, usage)",
    },
    "usescale.compiling": {"compile_code": "(scale, inputs, derivation)"},
    "usescale.codejudge": {"judge_code": "(scale, code)"},
}


class InterfaceTest(unittest.TestCase):
    def test_classes_stand_in_their_files_and_methods_in_their_classes(self):
        for module, classes in CLASSES.items():
            for name, methods in classes.items():
                found = getattr(importlib.import_module(module), name)
                self.assertEqual(found.__module__, module)
                for method, signature in methods.items():
                    with self.subTest(name=name, method=method):
                        self.assertIn(method, vars(found))
                        if signature is not None:
                            self.assertEqual(str(inspect.signature(getattr(found, method))), signature)

    def test_functions_stand_in_their_files(self):
        for module, functions in FUNCTIONS.items():
            for name, signature in functions.items():
                found = getattr(importlib.import_module(module), name)
                self.assertEqual((found.__module__, str(inspect.signature(found))), (module, signature))

    def test_methods_of_all_scales_take_the_same_arguments(self):
        for module, classes in CLASSES.items():
            for name in classes:
                found = getattr(importlib.import_module(module), name)
                if not issubclass(found, Scale):
                    continue
                for method, signature in SCALE_METHODS.items():
                    self.assertEqual(str(inspect.signature(getattr(found, method))), signature)

    def test_class_methods_and_properties(self):
        for name in ("named", "zero", "one"):
            self.assertIsInstance(vars(Grade)[name], classmethod)
        self.assertIsInstance(vars(Grade)["idle"], property)
        self.assertIsInstance(vars(Usage)["one_of"], classmethod)
        self.assertIsInstance(vars(Usage)["total"], staticmethod)
        self.assertIsInstance(vars(ScaleMap)["same"], classmethod)
        for name in ("done", "answer"):
            self.assertIsInstance(vars(Machine)[name], property)
            self.assertIsInstance(vars(CodeMachine)[name], property)
        self.assertIsInstance(vars(Workbook)["limit"], property)

    def test_errors_stand_in_their_file(self):
        for found in UsescaleError.__subclasses__():
            self.assertEqual(found.__module__, "usescale.errors")


if __name__ == "__main__":
    unittest.main()
