"""The machine in the words of points 31 to 34, as generators that tell what is next and what waits at each move."""

from usescale.grades import Grade
from usescale.usages import Usage



class PlainMachine:
    """Contents, what is next and what waits are tuples of a word, a derivation, a dict of cells by names, and more."""

    def __init__(self, scale, inputs, derivation, values):
        self.scale = scale
        self.grades, self.contents, self.looks = [], [], []
        env = {}
        for (name, grade), value in zip(inputs, values):
            env[name] = self.made(Grade.named(scale, grade), ("input", value))
        self.next, self.waiting = ("term", derivation, env), ()
        self.moves = self.value(derivation, env, ())
        self.answer = None

    def step(self):
        """The next move, or None at the end."""
        try:
            move, self.next, self.waiting = next(self.moves)
        except StopIteration as stopped:
            self.answer, self.next, self.waiting = stopped.value, ("input", stopped.value), ()
            return None
        return move

    def made(self, grade, content):
        self.grades.append(grade)
        self.contents.append(content)
        self.looks.append(0)
        return len(self.grades) - 1

    def linear(self, content):
        return self.made(Grade.one(self.scale), content)

    def value(self, node, env, waiting):
        word, parts = node.term[0], node.parts
        if word == "int":
            return node.term[1]
        if word in ("fn", "pair", "left", "right", "box"):
            return node, env
        if word == "name":
            cell = env[node.term[1]]
            self.looks[cell] += 1
            yield ("look", cell), self.contents[cell], waiting
            return (yield from self.content(self.contents[cell], waiting))
        if word == "as":
            return (yield from self.value(parts[0], env, waiting))
        first = yield from self.value(parts[0], env, (("behind", node, env),) + waiting)
        if word in ("add", "sub", "mul"):
            second = yield from self.value(parts[1], env, waiting)
            return {"add": first + second, "sub": first - second, "mul": first * second}[word]
        if word == "repeat":
            return (yield from self.turn(("turns", node, env, first), waiting))
        return (yield from getattr(self, "use_" + word)(node, env, first, waiting))

    def content(self, content, waiting):
        if content[0] == "input":
            return content[1]
        if content[0] == "turns":
            return (yield from self.turn(content, waiting))
        return (yield from self.value(content[1], content[2], waiting))

    def goes(self, move, node, env, waiting):
        yield move, ("term", node, env), waiting
        return (yield from self.value(node, env, waiting))

    def turn(self, turns, waiting):
        _, node, env, many = turns
        if many <= 0:
            return (yield from self.goes(("turn", many), node.parts[1], env, waiting))
        cell = self.made(Grade.named(self.scale, node.grade), ("turns", node, env, many - 1))
        inner = {**env, node.term[2]: cell}
        return (yield from self.goes(("turn", many, cell), node.parts[2], inner, waiting))

    def use_call(self, node, env, function, waiting):
        fn, inner = function
        cell = self.made(Grade.named(self.scale, fn.grade), ("term", node.parts[1], env))
        return (yield from self.goes(("call", cell), fn.parts[0], {**inner, fn.term[1]: cell}, waiting))

    def use_split(self, node, env, pair, waiting):
        made, inner = pair
        x = self.linear(("term", made.parts[0], inner))
        y = self.linear(("term", made.parts[1], inner))
        scope = {**env, node.term[1]: x, node.term[2]: y}
        return (yield from self.goes(("split", x, y), node.parts[1], scope, waiting))

    def use_case(self, node, env, choice, waiting):
        made, inner = choice
        cell = self.linear(("term", made.parts[0], inner))
        at = 1 if made.term[0] == "left" else 2
        return (yield from self.goes(("choose", cell), node.parts[at], {**env, node.term[2 * at]: cell}, waiting))

    def use_unbox(self, node, env, box, waiting):
        made, inner = box
        cell = self.made(Grade.named(self.scale, made.term[1]), ("term", made.parts[0], inner))
        return (yield from self.goes(("open", cell), node.parts[1], {**env, node.term[1]: cell}, waiting))

    def use_test(self, node, env, number, waiting):
        return (yield from self.goes(("test", number > 0), node.parts[1 if number > 0 else 2], env, waiting))

    def usage(self, thing):
        """The usage of the names in what is told by a tuple."""
        word, node = thing[0], thing[1]
        if word == "input":
            return Usage(self.scale)
        if word == "term":
            return node.usage
        if word == "turns" or node.term[0] == "repeat":
            return node.turns
        term, parts = node.term, node.parts
        if term[0] == "call":
            return Grade.named(self.scale, node.grade) * parts[1].usage
        if term[0] == "case":
            return parts[1].usage.without(term[2]) | parts[2].usage.without(term[4])
        if term[0] == "test":
            return parts[1].usage | parts[2].usage
        bound = {"split": term[1:3], "unbox": term[1:2]}.get(term[0], ())
        return parts[1].usage.without(*bound)

    def used(self, thing, cell):
        """The usage of a cell in what is told by a tuple."""
        found = Grade.zero(self.scale)
        usage = self.usage(thing)
        for name in usage.names():
            if thing[2][name] == cell:
                found = found + usage[name]
        return found

    def demands(self):
        found = {}
        for cell in reversed(range(len(self.contents))):
            demand = self.used(self.next, cell)
            for thing in self.waiting:
                demand = demand + self.used(thing, cell)
            for later in range(cell + 1, len(self.contents)):
                demand = demand + found[later] * self.used(self.contents[later], cell)
            found[cell] = demand
        return [found[cell] for cell in range(len(self.contents))]
