"""Running in the words of point 29: what is bound to a name is a function that evaluates it anew."""

from usescale.errors import GoneReached, OutOfMoves


class PlainRunner:
    def __init__(self, values, limit):
        self.looks = {name: 0 for name in values}
        self.moves = []
        self.limit = limit
        self.scope = {name: self.of_input(name, values[name]) for name in values}

    def of_input(self, name, number):
        def look():
            self.looks[name] += 1
            return number
        return look

    def move(self, word):
        if len(self.moves) == self.limit:
            raise OutOfMoves(self.limit)
        self.moves.append(word)

    def later(self, term, scope):
        return lambda: self.value(term, scope)

    def turns(self, term, scope, many):
        def take():
            self.move("turn")
            _, _, x, _, z, s = term
            if many <= 0:
                return self.value(z, scope)
            return self.value(s, {**scope, x: self.turns(term, scope, many - 1)})
        return take

    def value(self, term, scope):
        """An integer, or a term with its scope."""
        word = term[0]
        if word == "int":
            return term[1]
        if word == "gone":
            raise GoneReached()
        if word in ("fn", "pair", "left", "right", "box"):
            return term, scope
        if word == "name":
            self.move("look")
            return scope[term[1]]()
        if word in ("add", "sub", "mul"):
            a, b = self.value(term[1], scope), self.value(term[2], scope)
            return {"add": a + b, "sub": a - b, "mul": a * b}[word]
        if word == "as":
            return self.value(term[2], scope)
        if word == "call":
            (_, x, _, _, body), inner = self.value(term[1], scope)
            self.move("call")
            return self.value(body, {**inner, x: self.later(term[2], scope)})
        return self.eliminated(term, scope)

    def eliminated(self, term, scope):
        if term[0] == "split":
            _, x, y, e, body = term
            (_, a, b), inner = self.value(e, scope)
            self.move("split")
            return self.value(body, {**scope, x: self.later(a, inner), y: self.later(b, inner)})
        if term[0] == "case":
            _, e, x, a, y, b = term
            (side, _, content), inner = self.value(e, scope)
            self.move("choose")
            name, branch = (x, a) if side == "left" else (y, b)
            return self.value(branch, {**scope, name: self.later(content, inner)})
        if term[0] == "unbox":
            _, x, e, body = term
            (_, _, content), inner = self.value(e, scope)
            self.move("open")
            return self.value(body, {**scope, x: self.later(content, inner)})
        if term[0] == "test":
            number = self.value(term[1], scope)
            self.move("test")
            return self.value(term[2] if number > 0 else term[3], scope)
        return self.turns(term, scope, self.value(term[1], scope))()


def plain_run(term, values, limit=2000):
    runner = PlainRunner(values, limit)
    answer = runner.value(term, runner.scope)
    return answer, runner.looks, runner.moves
