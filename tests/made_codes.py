"""Codes that no compiler made, and codes with something changed at random."""

import random

from plain_check import INT
from made_terms import some_grades

PAIR, BOX = ("pair", INT, INT), ("box", "2", INT)
FUN, EITHER = ("fun", "2", INT, INT), ("either", INT, INT)


def block(slots, result, *rows):
    """A block; slots is a string of grade names of integers, or a list of kinds with grades."""
    told = [(INT, grade) for grade in slots.split()] if isinstance(slots, str) else slots
    return (tuple(told), result, tuple(rows))


LOOK = ("look", 0)
LOOKS = block("1", INT, LOOK)
TWICE = block("2", INT, LOOK, LOOK, ("add",))
CONST = block("", INT, ("push", 7))


def own_codes():
    """Codes for tallies up to a grade with values, their answers, moves, and the grades of all cells at the end."""
    return [
        # Blocks that are used by several instructions, and an entry that is taken twice.
        ([block("3", INT, ("pair", 1, (0,), 1, (0,)), ("split",), LOOK, ("look", 1), ("look", 2), ("add",), ("mul",)),
          LOOKS], [4], 32,
         [("split", 1, 2), ("look", 0), ("look", 1), ("look", 0), ("look", 2), ("look", 0)], "3 1 1"),
        ([block("4", INT, ("box", "2", 1, (0, 0)), ("open",), ("look", 1), ("look", 1), ("sub",)),
          block("1 1", INT, LOOK, ("look", 1), ("mul",))], [3], 0,
         [("open", 1), ("look", 1), ("look", 0), ("look", 0), ("look", 1), ("look", 0), ("look", 0)], "4 2"),
        # A block that nothing uses, and slots that allow more than is used.
        ([block("5 9", INT, LOOK), block("1", BOX, ("box", "2", 2, ())), CONST], [6, 7], 6, [("look", 0)], "5 9"),
        # A function and a box whose kinds are taken for other ones keep their own grades.
        ([block("9", INT, ("fn", "3", INT, 1, ()), ("as", ("fun", "5", INT, INT)), ("call", 2, (0,))), TWICE, LOOKS],
         [6], 12, [("call", 1), ("look", 1), ("look", 0), ("look", 1), ("look", 0)], "9 3"),
        ([block("3", INT, ("box", "3", 1, (0,)), ("as", BOX), ("as", ("box", "1", INT)), ("open",), ("look", 1)),
          LOOKS], [6], 6, [("open", 1), ("look", 1), ("look", 0)], "3 3"),
        # Values wait below on the stack while blocks are run and entries are made.
        ([block("2", INT, ("push", 100), ("push", 7), ("left", BOX, 1, (0,)), ("case", 2, (), 3, (0,)), ("sub",),
                ("add",)),
          LOOKS, block("1", INT, LOOK, ("push", 3), ("mul",)),
          block([(INT, "1"), (BOX, "1")], INT, ("look", 1), ("open",), LOOK, ("look", 2), ("add",))], [5], 92,
         [("choose", 1), ("look", 1), ("look", 0)], "2 1"),
        # A function that is handed on as a value, with an entry of its own.
        ([block("2", INT, ("fn", "1", FUN, 1, (0,)), ("call", 2, ())),
          block([(INT, "2"), (FUN, "1")], INT, ("look", 1), ("call", 4, (0,))),
          block("", FUN, ("fn", "2", INT, 3, ())), TWICE, LOOKS], [9], 18,
         [("call", 1), ("look", 1), ("call", 2), ("look", 2), ("look", 0), ("look", 2), ("look", 0)], "2 1 2"),
        # A test and turns, whose blocks allow more than they use.
        ([block("2", INT, LOOK, ("repeat", "1", 1, (), 2, ())), block("", INT, ("push", 1)),
          block("1", INT, LOOK, ("push", 2), ("mul",))], [3], 8,
         [("look", 0), ("turn", 3, 1), ("look", 1), ("turn", 2, 2), ("look", 2), ("turn", 1, 3), ("look", 3),
          ("turn", 0)], "2 1 1 1"),
        ([block("1 2", INT, LOOK, ("test", 1, (1,), 2, (1,))), TWICE, LOOKS], [0, 8], 8,
         [("look", 0), ("test", False), ("look", 1)], "1 2"),
    ]


class Changer:
    """Changes a code at random."""

    def __init__(self, scale, seed):
        self.source = random.Random(seed)
        self.grades = some_grades(scale) + ["zz", "?"]

    def kind(self):
        return self.source.choice((INT, PAIR, EITHER, ("box", self.source.choice(self.grades), INT),
                                   ("fun", self.source.choice(self.grades), INT, INT)))

    def inside(self, value):
        """A value of an instruction, a slot or a kind with something changed."""
        if isinstance(value, int):
            return value + self.source.choice((-1, 1, 1, 2))
        if isinstance(value, str):
            return self.source.choice(self.grades)
        if value and isinstance(value[0], str):
            if len(value) == 1 or self.source.random() < 0.5:
                return self.kind()
            at = self.source.randrange(1, len(value))
            return value[:at] + (self.inside(value[at]),) + value[at + 1:]
        return self.numbers(value)

    def numbers(self, value):
        """A tuple of entry numbers with one changed, left out or added."""
        at = self.source.randrange(len(value) + 1)
        act = self.source.choice(("change", "drop", "add"))
        if act == "add" or not value:
            return value[:at] + (self.source.randint(0, 2),) + value[at:]
        at = min(at, len(value) - 1)
        return value[:at] + (() if act == "drop" else (self.inside(value[at]),)) + value[at + 1:]

    def rows(self, rows):
        """Rows with one changed, left out, doubled or put elsewhere."""
        found = list(rows)
        if not found:
            return (("push", 1),)
        at = self.source.randrange(len(found))
        act = self.source.choice(("change", "change", "change", "drop", "double", "swap"))
        if act == "change" and len(found[at]) > 1:
            inner = self.source.randrange(1, len(found[at]))
            found[at] = found[at][:inner] + (self.inside(found[at][inner]),) + found[at][inner + 1:]
        elif act == "drop":
            del found[at]
        elif act == "double":
            found.insert(at, found[at])
        else:
            found[at], found[-1] = found[-1], found[at]
        return tuple(found)

    def slots(self, slots):
        found = list(slots)
        if not found or self.source.random() < 0.1:
            return tuple(found + [(INT, self.source.choice(self.grades))])
        at = self.source.randrange(len(found))
        kind, grade = found[at]
        act = self.source.choice(("grade", "grade", "kind", "drop"))
        if act == "drop":
            del found[at]
        else:
            found[at] = (kind, self.source.choice(self.grades)) if act == "grade" else (self.inside(kind), grade)
        return tuple(found)

    def code(self, code):
        found = list(code)
        at = self.source.randrange(len(found))
        slots, result, rows = found[at]
        act = self.source.choice(("rows", "rows", "rows", "slots", "slots", "result", "blocks"))
        if act == "blocks":
            if self.source.random() < 0.5:
                del found[at]
            else:
                found.append(found[at])
            return found
        if act == "rows":
            rows = self.rows(rows)
        elif act == "slots":
            slots = self.slots(slots)
        else:
            result = self.kind()
        found[at] = (slots, result, rows)
        return found
