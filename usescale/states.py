"""What a run of the machine stands at between two moves. Nothing here is changed once it is made."""

from usescale.forms import KEPT, bound_names
from usescale.grades import Grade
from usescale.operations import OPERATIONS, operated
from usescale.rules import usage_behind


class Node:
    """A node of a derivation as the machine needs it.

    The usages are lists of names with the places of their grades; used_behind is what waits while the first part is
    evaluated, for a repetition the usage of the turns.
    """

    def __init__(self, derivation, grade, parts, used, used_behind):
        self.term = derivation.term
        self.word = derivation.term[0]
        self.grade = grade
        self.parts = list(parts)
        self.used = list(used)
        self.used_behind = list(used_behind)

    def inside(self, number, scope, cells):
        """The part with the number in a scope, with the names that are bound in it bound to the cells."""
        return Closure(self.parts[number], scope.with_cells(bound_names(self.term, number), cells))


class Scope:
    """The numbers of the cells that names are bound to."""

    def __init__(self, bound):
        self._bound = dict(bound)

    def cell_of(self, name):
        """The number of the cell that a name is bound to."""
        return self._bound[name]

    def with_cells(self, names, cells):
        """The scope with these names bound to these cells."""
        inner = dict(self._bound)
        for name, cell in zip(names, cells):
            inner[name] = cell
        return Scope(inner)


class Closure:
    """A node with its scope."""

    def __init__(self, node, scope):
        self.node = node
        self.scope = scope


class Turns:
    """A repetition in its scope with the turns that are left."""

    def __init__(self, node, scope, many):
        self.node = node
        self.scope = scope
        self.many = many


class Waiting:
    """A node in its scope that waits for the value of a part, and what waits for its own value.

    first is the value of the first operand where that is known.
    """

    def __init__(self, node, scope, first, outer):
        self.node = node
        self.scope = scope
        self.first = first
        self.outer = outer


class State:
    """What is evaluated next (a Closure, Turns, or an integer that is known) and what waits for its value."""

    def __init__(self, following, waiting):
        self.following = following
        self.waiting = waiting


def node_of(scale, derivation):
    """The node of a derivation."""
    parts = []
    for part in derivation.parts:
        parts.append(node_of(scale, part))
    grade = None if derivation.grade == "" else Grade.named(scale, derivation.grade)
    behind = usage_behind(scale, derivation.term, derivation.parts, derivation.grade, derivation.turns)
    return Node(derivation, grade, parts, places_in(derivation.usage), places_in(behind))


def places_in(usage):
    """The names that are used with the places of their grades."""
    return [(name, usage.place_of(name)) for name in usage.names()]


def uses_of(thing):
    """The cells that are used in what is evaluated next, in what waits or in a content, with the places of grades."""
    if isinstance(thing, int) or (isinstance(thing, Waiting) and thing.first is not None):
        return []
    used = thing.node.used if isinstance(thing, Closure) else thing.node.used_behind
    return [(thing.scope.cell_of(name), place) for name, place in used]


def part_of(thing, number):
    """The part with the number of what has a node and a scope, in this scope."""
    return Closure(thing.node.parts[number], thing.scope)


def settled(state):
    """The state just ahead of the next move, or at the end."""
    settling = state
    following = onward(settling)
    while following is not None:
        settling = following
        following = onward(settling)
    return settling


def onward(state):
    """The state after a step that makes no move, or None if there is no such step."""
    now = state.following
    if isinstance(now, Turns):
        return None
    if isinstance(now, Closure) and now.node.word not in KEPT:
        return begun(now, state.waiting)
    return resumed(now, state.waiting)


def begun(closure, waiting):
    """The state after a node has begun to be evaluated without a move, or None."""
    node = closure.node
    if node.word == "name":
        return None
    if node.word == "int":
        return State(node.term[1], waiting)
    if node.word == "as":
        return State(part_of(closure, 0), waiting)
    return State(part_of(closure, 0), Waiting(node, closure.scope, None, waiting))


def resumed(value, waiting):
    """The state after what waits has gone on with a value without a move, or None."""
    if waiting is None:
        return None
    node = waiting.node
    if node.word == "repeat":
        return State(Turns(node, waiting.scope, value), waiting.outer)
    if node.word not in OPERATIONS:
        return None
    if waiting.first is None:
        return State(part_of(waiting, 1), Waiting(node, waiting.scope, value, waiting.outer))
    return State(operated(node.word, waiting.first, value), waiting.outer)


def at_end(state):
    """Whether no move is left in a settled state."""
    return state.waiting is None and isinstance(state.following, int)
