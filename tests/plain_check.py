"""Checking in the words of points 22 to 27, rule by rule, with usages as plain dicts of places."""

from usescale.errors import (GoneTerm, KindClash, LooseGap, NoBound, NoTurns, Overuse, TwiceBound, UnboundName,
                             UnknownGrade, WrongForm)

INT = ("int",)


class Found:
    """What a check finds out about a term."""

    def __init__(self, term, usage, kind, parts, grade="", turns=None):
        self.term, self.usage, self.kind, self.parts, self.grade, self.turns = term, usage, kind, parts, grade, turns


def kind_grades(kind):
    if kind[0] == "int":
        return []
    if kind[0] == "fun":
        return [kind[1]] + kind_grades(kind[2]) + kind_grades(kind[3])
    if kind[0] == "box":
        return [kind[1]] + kind_grades(kind[2])
    return kind_grades(kind[1]) + kind_grades(kind[2])


def plain_fits(scale, found, wanted):
    def within(a, b):
        return scale.within_at(scale.at_name(a), scale.at_name(b))

    if found == INT or wanted == INT or found[0] != wanted[0]:
        return found == wanted
    if found[0] == "fun":
        return (within(found[1], wanted[1]) and plain_fits(scale, wanted[2], found[2])
                and plain_fits(scale, found[3], wanted[3]))
    if found[0] == "box":
        return within(wanted[1], found[1]) and plain_fits(scale, found[2], wanted[2])
    return plain_fits(scale, found[1], wanted[1]) and plain_fits(scale, found[2], wanted[2])


class PlainChecker:
    def __init__(self, scale):
        self.scale = scale

    def at(self, usage, name):
        return usage.get(name, self.scale.zero_at)

    def plus(self, u, v):
        return {name: self.scale.sum_at(self.at(u, name), self.at(v, name)) for name in {**u, **v}}

    def times(self, grade, u):
        return {name: self.scale.product_at(self.scale.at_name(grade), u[name]) for name in u}

    def without(self, u, *names):
        return {name: u[name] for name in u if name not in names}

    def bound(self, u, v):
        found = {}
        for name in sorted({**u, **v}):
            a, b = self.at(u, name), self.at(v, name)
            found[name] = self.scale.bound_at(a, b)
            if found[name] is None:
                raise NoBound(name, self.scale.name_at(a), self.scale.name_at(b))
        return found

    def turns(self, start, extra, grade):
        found = {}
        for name in sorted({**start, **extra}):
            factor = self.scale.at_name(grade)
            found[name] = self.scale.turns_at(self.at(start, name), self.at(extra, name), factor)
            if found[name] is None:
                raise NoTurns(name)
        return found

    def fill(self, place):
        """The name of the grade of a gap whose name is used with the grade at a place."""
        return self.scale.name_at(place)

    def keep(self, name, usage, place):
        if not self.scale.within_at(self.at(usage, name), place):
            raise Overuse(name, self.scale.name_at(self.at(usage, name)), self.scale.name_at(place))

    def know(self, *grades):
        for grade in grades:
            if grade == "?":
                raise UnknownGrade("?")
            self.scale.at_name(grade)

    def want(self, found, kind):
        if found.kind != kind:
            raise KindClash(kind, found.kind)

    def form(self, found, word):
        if found.kind[0] != word:
            raise WrongForm(word, found.kind)

    def check(self, term, context, held=False):
        return getattr(self, "check_" + term[0])(term, context, held)

    def check_gone(self, term, context, held):
        raise GoneTerm()

    def check_int(self, term, context, held):
        return Found(term, {}, INT, [])

    def check_name(self, term, context, held):
        if term[1] not in context:
            raise UnboundName(term[1])
        return Found(term, {term[1]: self.scale.one_at}, context[term[1]], [])

    def check_add(self, term, context, held):
        a = self.check(term[1], context)
        self.want(a, INT)
        b = self.check(term[2], context)
        self.want(b, INT)
        return Found(term, self.plus(a.usage, b.usage), INT, [a, b])

    check_sub = check_mul = check_add

    def check_fn(self, term, context, held):
        _, x, g, kind, body = term
        if g == "?" and not held:
            raise LooseGap(x)
        if g != "?":
            self.know(g)
        self.know(*kind_grades(kind))
        e = self.check(body, {**context, x: kind})
        if g == "?":
            g = self.fill(self.at(e.usage, x))
        self.keep(x, e.usage, self.scale.at_name(g))
        return Found(term, self.without(e.usage, x), ("fun", g, kind, e.kind), [e], g)

    def check_call(self, term, context, held):
        f = self.check(term[1], context, True)
        self.form(f, "fun")
        a = self.check(term[2], context)
        _, g, source, target = f.kind
        self.want(a, source)
        return Found(term, self.plus(f.usage, self.times(g, a.usage)), target, [f, a], g)

    def check_pair(self, term, context, held):
        a, b = self.check(term[1], context), self.check(term[2], context)
        return Found(term, self.plus(a.usage, b.usage), ("pair", a.kind, b.kind), [a, b])

    def check_split(self, term, context, held):
        _, x, y, e, body = term
        if x == y:
            raise TwiceBound(x)
        e = self.check(e, context)
        self.form(e, "pair")
        b = self.check(body, {**context, x: e.kind[1], y: e.kind[2]})
        self.keep(x, b.usage, self.scale.one_at)
        self.keep(y, b.usage, self.scale.one_at)
        return Found(term, self.plus(e.usage, self.without(b.usage, x, y)), b.kind, [e, b])

    def check_left(self, term, context, held):
        self.know(*kind_grades(term[1]))
        a = self.check(term[2], context)
        kind = ("either", a.kind, term[1]) if term[0] == "left" else ("either", term[1], a.kind)
        return Found(term, a.usage, kind, [a])

    check_right = check_left

    def check_case(self, term, context, held):
        _, e, x, a, y, b = term
        e = self.check(e, context)
        self.form(e, "either")
        a = self.check(a, {**context, x: e.kind[1]})
        self.keep(x, a.usage, self.scale.one_at)
        b = self.check(b, {**context, y: e.kind[2]})
        self.want(b, a.kind)
        self.keep(y, b.usage, self.scale.one_at)
        usage = self.plus(e.usage, self.bound(self.without(a.usage, x), self.without(b.usage, y)))
        return Found(term, usage, a.kind, [e, a, b])

    def check_box(self, term, context, held):
        self.know(term[1])
        e = self.check(term[2], context)
        return Found(term, self.times(term[1], e.usage), ("box", term[1], e.kind), [e], term[1])

    def check_unbox(self, term, context, held):
        _, x, e, body = term
        e = self.check(e, context)
        self.form(e, "box")
        b = self.check(body, {**context, x: e.kind[2]})
        self.keep(x, b.usage, self.scale.at_name(e.kind[1]))
        return Found(term, self.plus(e.usage, self.without(b.usage, x)), b.kind, [e, b], e.kind[1])

    def check_test(self, term, context, held):
        e = self.check(term[1], context)
        self.want(e, INT)
        a, b = self.check(term[2], context), self.check(term[3], context)
        self.want(b, a.kind)
        return Found(term, self.plus(e.usage, self.bound(a.usage, b.usage)), a.kind, [e, a, b])

    def check_repeat(self, term, context, held):
        _, e, x, g, z, s = term
        if g != "?":
            self.know(g)
        e = self.check(e, context)
        self.want(e, INT)
        z = self.check(z, context)
        s = self.check(s, {**context, x: z.kind})
        self.want(s, z.kind)
        if g == "?":
            g = self.fill(self.at(s.usage, x))
        self.keep(x, s.usage, self.scale.at_name(g))
        turns = self.turns(z.usage, self.without(s.usage, x), g)
        return Found(term, self.plus(e.usage, turns), z.kind, [e, z, s], g, turns)

    def check_as(self, term, context, held):
        self.know(*kind_grades(term[1]))
        e = self.check(term[2], context, True)
        if not plain_fits(self.scale, e.kind, term[1]):
            raise KindClash(term[1], e.kind)
        return Found(term, e.usage, term[1], [e])


def plain_program(scale, inputs, term, under=None):
    """Checking a program in the words of point 25; it gives what was found and the products of the inputs' usages."""
    checker = PlainChecker(scale)
    if under is not None:
        checker.know(under)
    names = []
    for name, grade in inputs:
        checker.know(grade)
        if name in names:
            raise TwiceBound(name)
        names.append(name)
    found = checker.check(term, {name: INT for name in names})
    if found.kind != INT:
        raise KindClash(INT, found.kind)
    usage = found.usage if under is None else checker.times(under, found.usage)
    for name, grade in inputs:
        checker.keep(name, usage, scale.at_name(grade))
    return found


def plain_usage(scale, usage):
    """The names and grade names of a plain usage, without those that are zero."""
    return {name: scale.name_at(usage[name]) for name in usage if usage[name] != scale.zero_at}


def told(usage):
    """The names and grade names of a Usage."""
    return {name: usage[name].name for name in usage.names()}


def told_error(error):
    """An error as a tuple that can be compared."""
    return type(error).__name__, dict(vars(error))


def told_tree(scale, found):
    """What was found, as nested tuples that can be compared."""
    def written(usage):
        if usage is None:
            return None
        return plain_usage(scale, usage) if isinstance(usage, dict) else told(usage)

    return (found.term, written(found.usage), found.kind, found.grade, written(found.turns),
            [told_tree(scale, part) for part in found.parts])
