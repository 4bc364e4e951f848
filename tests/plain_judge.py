"""Judging codes in the words of points 44 and 45, one instruction after the other."""

from plain_check import INT, kind_grades, plain_fits


class Broken(Exception):
    """A rule is broken at the row that is looked at."""


def want(held):
    if not held:
        raise Broken()


class PlainJudge:
    """One block: the entries as tuples of kind and allowed place, with usages as dicts of places by entries."""

    def __init__(self, scale, code, at):
        self.scale, self.code, self.at = scale, code, at
        self.slots, self.result, self.rows = code[at]
        self.entries, self.stack, self.usages = [], [], []

    def known(self, name):
        return name in self.names() if self.scale.size is not None else self.scale.find_at(name) is not None

    def names(self):
        return [self.scale.name_at(place) for place in self.scale.places()]

    def know(self, *kinds):
        for kind in kinds:
            want(all(self.known(name) for name in kind_grades(kind)))

    def head(self):
        for kind, grade in self.slots:
            self.know(kind)
            want(self.known(grade))
        self.know(self.result)
        want(self.at or ([kind for kind, _ in self.slots] == [INT] * len(self.slots) and self.result == INT))

    def within(self, name, place):
        return self.scale.within_at(self.scale.at_name(name), place)

    def pop(self, word):
        want(self.stack and self.stack[-1][0] == word)
        return self.stack.pop()

    def thunk(self, block, take, *last):
        """The usage of a block through what it takes; last is the kind of its last slot and where its grade lies."""
        want(self.at < block < len(self.code))
        want(all(0 <= entry < len(self.entries) for entry in take))
        slots = list(self.code[block][0])
        if last:
            want(slots)
            kind, grade = slots.pop()
            want(kind == last[0] and self.within(grade, last[1]))
        want([kind for kind, _ in slots] == [self.entries[entry][0] for entry in take])
        return [(entry, self.scale.at_name(grade)) for entry, (_, grade) in zip(take, slots)]

    def total(self, usage):
        """The usage of all entries, of those that stand in the list several times added up."""
        found = [self.scale.zero_at for _ in self.entries]
        for entry, place in usage:
            found[entry] = self.scale.sum_at(found[entry], place)
        return found

    def use(self, places):
        self.usages.append(places)

    def times(self, grade, usage):
        return [self.scale.product_at(self.scale.at_name(grade), place) for place in self.total(usage)]

    def bound(self, first, second):
        found = [self.scale.bound_at(a, b) for a, b in zip(self.total(first), self.total(second))]
        want(None not in found)
        self.use(found)

    def kind_of(self, block):
        return self.code[block][1]

    def do(self, row):
        getattr(self, "do_" + row[0])(*row[1:])

    def do_push(self, n):
        self.stack.append(INT)

    def do_look(self, k):
        want(0 <= k < len(self.entries))
        self.use(self.total([(k, self.scale.one_at)]))
        self.stack.append(self.entries[k][0])

    def do_add(self):
        self.pop("int")
        self.pop("int")
        self.stack.append(INT)

    do_sub = do_mul = do_add

    def do_fn(self, g, kind, block, take):
        want(self.known(g))
        self.know(kind)
        self.use(self.total(self.thunk(block, take, kind, self.scale.at_name(g))))
        self.stack.append(("fun", g, kind, self.kind_of(block)))

    def do_call(self, block, take):
        _, g, source, target = self.pop("fun")
        usage = self.thunk(block, take)
        want(self.kind_of(block) == source)
        self.use(self.times(g, usage))
        self.stack.append(target)

    def do_pair(self, block, take, other, take2):
        self.use(self.total(self.thunk(block, take) + self.thunk(other, take2)))
        self.stack.append(("pair", self.kind_of(block), self.kind_of(other)))

    def do_split(self):
        _, a, b = self.pop("pair")
        self.entries += [(a, self.scale.one_at), (b, self.scale.one_at)]

    def do_left(self, kind, block, take):
        self.know(kind)
        self.use(self.total(self.thunk(block, take)))
        self.stack.append(("either", self.kind_of(block), kind))

    def do_right(self, kind, block, take):
        self.know(kind)
        self.use(self.total(self.thunk(block, take)))
        self.stack.append(("either", kind, self.kind_of(block)))

    def do_case(self, block, take, other, take2):
        _, a, b = self.pop("either")
        one = self.scale.one_at
        first, second = self.thunk(block, take, a, one), self.thunk(other, take2, b, one)
        want(self.kind_of(block) == self.kind_of(other))
        self.bound(first, second)
        self.stack.append(self.kind_of(block))

    def do_box(self, g, block, take):
        want(self.known(g))
        self.use(self.times(g, self.thunk(block, take)))
        self.stack.append(("box", g, self.kind_of(block)))

    def do_open(self):
        _, g, kind = self.pop("box")
        self.entries.append((kind, self.scale.at_name(g)))

    def do_test(self, block, take, other, take2):
        self.pop("int")
        first, second = self.thunk(block, take), self.thunk(other, take2)
        want(self.kind_of(block) == self.kind_of(other))
        self.bound(first, second)
        self.stack.append(self.kind_of(block))

    def do_repeat(self, g, block, take, other, take2):
        self.pop("int")
        want(self.known(g))
        factor = self.scale.at_name(g)
        first = self.thunk(block, take)
        second = self.thunk(other, take2, self.kind_of(block), factor)
        want(self.kind_of(block) == self.kind_of(other))
        found = [self.scale.turns_at(a, b, factor) for a, b in zip(self.total(first), self.total(second))]
        want(None not in found)
        self.use(found)
        self.stack.append(self.kind_of(block))

    def do_as(self, kind):
        self.know(kind)
        want(self.stack and plain_fits(self.scale, self.stack.pop(), kind))
        self.stack.append(kind)

    def end(self):
        want(self.stack == [self.result])
        for entry, (_, allowed) in enumerate(self.entries):
            used = self.scale.zero_at
            for usage in self.usages:
                if entry < len(usage):
                    used = self.scale.sum_at(used, usage[entry])
            want(self.scale.within_at(used, allowed))


def plain_judge(scale, code):
    """None, or the block and the row of the first rule that is broken."""
    if not code:
        return (0, -1)
    judges = [PlainJudge(scale, code, at) for at in range(len(code))]
    for at, judge in enumerate(judges):
        try:
            judge.head()
        except Broken:
            return (at, -1)
    for at, judge in enumerate(judges):
        judge.entries = [(kind, scale.at_name(grade)) for kind, grade in judge.slots]
        row = 0
        try:
            for row in range(len(judge.rows)):
                judge.do(judge.rows[row])
            row = len(judge.rows)
            judge.end()
        except Broken:
            return (at, row)
    return None
