"""Random kinds, terms and programs to test with."""

import random

from plain_check import INT, PlainChecker, plain_program
from usescale.errors import NameMissing, UsescaleError
from usescale.families import (CutScale, LevelScale, PairScale, RelationScale, SpanScale, SubsetScale,
                               TurnedScale)
from usescale.tallies import ExactTally, LeastTally, MostTally

NAMES = ("a", "b", "c", "x", "y", "z", "x0", "x1")


def checking_scales():
    """Regular scales of all families, some of whose products do not commute."""
    return [
        ExactTally(), MostTally(), LeastTally(), CutScale(2, order="up"), CutScale(3, order="down"),
        CutScale(1, period=3), CutScale(0), LevelScale(3), SubsetScale(2), SpanScale(1), SpanScale(2),
        RelationScale(2), TurnedScale(RelationScale(2)), TurnedScale(CutScale(2, order="up")),
        PairScale(RelationScale(2), LevelScale(2)), PairScale(MostTally(), SubsetScale(1)),
        PairScale(LeastTally(), PairScale(CutScale(2), ExactTally())),
    ]


def some_grades(scale):
    """Names of grades of a scale, of low numbers for tallies."""
    if isinstance(scale, PairScale):
        return [f"<{a}/{b}>" for a in some_grades(scale.left) for b in some_grades(scale.right)]
    if scale.size is None:
        return ["0", "1", "2", "3"]
    return [scale.name_at(place) for place in scale.places()]


class Maker:
    """Makes terms of wanted kinds; the grades of binders are mostly those that the scopes use."""

    def __init__(self, scale, seed):
        self.scale = scale
        self.source = random.Random(seed)
        self.grades = some_grades(scale)
        self.checker = PlainChecker(scale)

    def pick(self, *choices):
        return self.source.choice(choices)

    def grade(self):
        return self.source.choice(self.grades)

    def name(self):
        return self.source.choice(NAMES)

    def kind(self, depth=2):
        word = self.pick("int", "int", "fun", "pair", "either", "box") if depth else "int"
        if word == "int":
            return INT
        if word == "fun":
            return ("fun", self.grade(), self.kind(depth - 1), self.kind(depth - 1))
        if word == "box":
            return ("box", self.grade(), self.kind(depth - 1))
        return (word, self.kind(depth - 1), self.kind(depth - 1))

    def used(self, term, context, name):
        """The name of the grade that a term uses of a name; some grade if the term is not accepted."""
        try:
            usage = self.checker.check(term, context).usage
        except (UsescaleError, NameMissing):
            return self.grade()
        return self.scale.name_at(self.checker.at(usage, name))

    def term(self, kind, context, depth):
        """A term of a kind, at most about as deep as told."""
        names = [name for name in context if context[name] == kind]
        if names and self.source.random() < (0.35 if depth > 0 else 0.8):
            return ("name", self.source.choice(names))
        if depth > 0 and self.source.random() < 0.5:
            return self.user(kind, context, depth - 1)
        return self.maker(kind, context, depth - 1)

    def maker(self, kind, context, depth):
        """A term that makes a value of a kind."""
        if kind == INT:
            if depth < 0 or self.source.random() < 0.3:
                return ("int", self.source.randint(-2, 4))
            return (self.pick("add", "sub", "mul"), self.term(INT, context, depth), self.term(INT, context, depth))
        if kind[0] == "fun":
            x = self.name()
            return ("fn", x, kind[1], kind[2], self.term(kind[3], {**context, x: kind[2]}, depth))
        if kind[0] == "pair":
            return ("pair", self.term(kind[1], context, depth), self.term(kind[2], context, depth))
        if kind[0] == "box":
            return ("box", kind[1], self.term(kind[2], context, depth))
        if self.source.random() < 0.5:
            return ("left", kind[2], self.term(kind[1], context, depth))
        return ("right", kind[1], self.term(kind[2], context, depth))

    def user(self, kind, context, depth):
        """A term that uses something else to come to a kind."""
        return getattr(self, "use_" + self.pick("call", "split", "case", "unbox", "test", "repeat", "as"))(
            kind, context, depth)

    def use_call(self, kind, context, depth):
        x, source = self.name(), self.kind(1)
        inner = {**context, x: source}
        body = self.term(kind, inner, depth)
        grade = self.pick("?", self.used(body, inner, x))
        return ("call", ("fn", x, grade, source, body), self.term(source, context, depth))

    def use_split(self, kind, context, depth):
        x, y = self.source.sample(NAMES, 2)
        first, second = self.kind(1), self.kind(1)
        return ("split", x, y, self.term(("pair", first, second), context, depth),
                self.term(kind, {**context, x: first, y: second}, depth))

    def use_case(self, kind, context, depth):
        x, y = self.name(), self.name()
        first, second = self.kind(1), self.kind(1)
        return ("case", self.term(("either", first, second), context, depth),
                x, self.term(kind, {**context, x: first}, depth), y, self.term(kind, {**context, y: second}, depth))

    def use_unbox(self, kind, context, depth):
        x, content = self.name(), self.kind(1)
        inner = {**context, x: content}
        body = self.term(kind, inner, depth)
        box = ("box", self.used(body, inner, x), content)
        return ("unbox", x, self.term(box, context, depth), body)

    def use_test(self, kind, context, depth):
        return ("test", self.term(INT, context, depth), self.term(kind, context, depth),
                self.term(kind, context, depth))

    def use_repeat(self, kind, context, depth):
        x = self.name()
        inner = {**context, x: kind}
        body = self.term(kind, inner, depth)
        grade = self.pick("?", self.used(body, inner, x))
        return ("repeat", self.term(INT, context, depth), x, grade, self.term(kind, context, depth), body)

    def use_as(self, kind, context, depth):
        if kind[0] == "fun" and self.source.random() < 0.5:
            x = self.name()
            return ("as", kind, ("fn", x, "?", kind[2], self.term(kind[3], {**context, x: kind[2]}, depth)))
        return ("as", kind, self.term(kind, context, depth))

    def broken(self, term):
        """The term with something changed at random, which mostly breaks a rule."""
        if isinstance(term, tuple) and len(term) > 1 and self.source.random() < 0.8:
            at = self.source.randrange(1, len(term))
            return term[:at] + (self.broken(term[at]),) + term[at + 1:]
        if isinstance(term, int):
            return term + 1
        if isinstance(term, str):
            return self.pick(self.name(), self.grade(), "?", "zz")
        if not is_term(term):
            return self.kind(2)
        return self.pick(("gone", INT), ("name", self.name()), ("int", 1), self.term(self.kind(1), {}, 2), term)

    def program(self, depth):
        """Inputs, a term and values of a program that is mostly accepted."""
        names = self.source.sample(NAMES, self.source.randint(0, 3))
        context = {name: INT for name in names}
        term = self.term(INT, context, depth)
        inputs = [(name, self.used(term, context, name)) for name in names]
        return inputs, term, {name: self.source.randint(-2, 5) for name in names}


def is_term(row):
    """Whether a row is a term and no kind; pairs and boxes of both have the same word."""
    if row[0] in ("pair", "box"):
        return is_term(row[-1])
    return row[0] not in ("int", "fun", "either") or (row[0] == "int" and len(row) == 2)


def accepted_programs(scale, many, depth=4):
    """Programs with values that are accepted on a scale."""
    found = []
    seed = 0
    while len(found) < many:
        seed = seed + 1
        inputs, term, values = Maker(scale, seed).program(depth)
        try:
            plain_program(scale, inputs, term)
        except (UsescaleError, NameMissing):
            continue
        found.append((inputs, term, values))
    return found
