"""Running terms by name, without a scale."""

from usescale.errors import GoneReached, OutOfMoves
from usescale.forms import KEPT, term_parts
from usescale.operations import operated


class Scope:
    """What is bound to a name, and the scope around it.

    The content is an integer for an input, otherwise a Closure or Turns.
    """

    def __init__(self, name, content, outer):
        self.name = name
        self.content = content
        self.outer = outer


class Closure:
    """A term with its scope."""

    def __init__(self, term, scope):
        self.term = term
        self.scope = scope


class Turns:
    """A repetition in its scope with the turns that are left."""

    def __init__(self, term, scope, many):
        self.term = term
        self.scope = scope
        self.many = many


class Waiting:
    """A term that waits for the value of a part; first is the first operand where that is known."""

    def __init__(self, closure, first):
        self.closure = closure
        self.first = first


class PlainRun:
    """A run with its moves and looks so far, what is waiting, and the last value."""

    def __init__(self, most_moves):
        self.most_moves = most_moves
        self.moves = []
        self.looked = {}
        self.waiting = []
        self.value = None

    def make_move(self, word):
        """Notes a move."""
        if len(self.moves) >= self.most_moves:
            raise OutOfMoves(self.most_moves)
        self.moves.append(word)


def run_plain(term, values, limit=2000):
    """The answer of a term, the number of looks at each key of values, and the words of all moves."""
    run = PlainRun(limit)
    scope = None
    for name in values:
        scope = Scope(name, values[name], scope)
        run.looked[name] = 0
    following = begin(run, Closure(term, scope))
    while following is not None or run.waiting:
        following = go_on(run) if following is None else begin(run, following)
    return run.value, dict(run.looked), list(run.moves)


def begin(run, closure):
    """Begins to evaluate a term: gives what is evaluated next, or None if the value of the term is known."""
    word = closure.term[0]
    if word == "gone":
        raise GoneReached()
    if word == "name":
        return look(run, closure)
    if word == "int":
        run.value = closure.term[1]
        return None
    if word in KEPT:
        run.value = closure
        return None
    if word != "as":
        run.waiting.append(Waiting(closure, None))
    return Closure(term_parts(closure.term)[0], closure.scope)


def look(run, closure):
    """Looks at what is bound to a name."""
    run.make_move("look")
    scope = closure.scope
    while scope.name != closure.term[1]:
        scope = scope.outer
    if isinstance(scope.content, Turns):
        return turn(run, scope.content)
    if isinstance(scope.content, Closure):
        return scope.content
    run.looked[scope.name] = run.looked[scope.name] + 1
    run.value = scope.content
    return None


def turn(run, turns):
    """Makes a turn of a repetition."""
    run.make_move("turn")
    _, _, name, _, last, following = turns.term
    if turns.many <= 0:
        return Closure(last, turns.scope)
    return Closure(following, Scope(name, Turns(turns.term, turns.scope, turns.many - 1), turns.scope))


def go_on(run):
    """Goes on with the term that waited for the last value."""
    waited = run.waiting.pop()
    follow = FOLLOWERS[waited.closure.term[0]]
    return follow(run, waited)


def follow_operand(run, waited):
    """Goes on with the second operand, or works out the result."""
    word, _, second = waited.closure.term
    if waited.first is None:
        run.waiting.append(Waiting(waited.closure, run.value))
        return Closure(second, waited.closure.scope)
    run.value = operated(word, waited.first, run.value)
    return None


def follow_call(run, waited):
    """Goes on with the body of a function."""
    run.make_move("call")
    _, name, _, _, body = run.value.term
    argument = Closure(waited.closure.term[2], waited.closure.scope)
    return Closure(body, Scope(name, argument, run.value.scope))


def follow_split(run, waited):
    """Goes on with the body under the halves of a pair."""
    run.make_move("split")
    _, first, second, _, body = waited.closure.term
    outer = Scope(first, Closure(run.value.term[1], run.value.scope), waited.closure.scope)
    return Closure(body, Scope(second, Closure(run.value.term[2], run.value.scope), outer))


def follow_case(run, waited):
    """Goes on with the branch of the side of a choice."""
    run.make_move("choose")
    _, _, left_name, left_branch, right_name, right_branch = waited.closure.term
    content = Closure(run.value.term[2], run.value.scope)
    if run.value.term[0] == "left":
        return Closure(left_branch, Scope(left_name, content, waited.closure.scope))
    return Closure(right_branch, Scope(right_name, content, waited.closure.scope))


def follow_unbox(run, waited):
    """Goes on with the body under the content of a box."""
    run.make_move("open")
    _, name, _, body = waited.closure.term
    content = Closure(run.value.term[2], run.value.scope)
    return Closure(body, Scope(name, content, waited.closure.scope))


def follow_test(run, waited):
    """Goes on with one of two branches."""
    run.make_move("test")
    _, _, above, otherwise = waited.closure.term
    return Closure(above if run.value > 0 else otherwise, waited.closure.scope)


def follow_repeat(run, waited):
    """Makes the first turn of a repetition."""
    return turn(run, Turns(waited.closure.term, waited.closure.scope, run.value))


FOLLOWERS = {
    "add": follow_operand,
    "sub": follow_operand,
    "mul": follow_operand,
    "call": follow_call,
    "split": follow_split,
    "case": follow_case,
    "unbox": follow_unbox,
    "test": follow_test,
    "repeat": follow_repeat,
}
