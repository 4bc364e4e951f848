"""Running accepted programs over cells, with the looks at each cell and what it may still be needed for."""

from usescale.cells import Cell
from usescale.errors import NotDone, OutOfMoves
from usescale.grades import Grade
from usescale.states import Closure, Scope, State, Turns, at_end, node_of, part_of, settled, uses_of


class Made:
    """A move that was made, with the state and the number of cells before it."""

    def __init__(self, move, state, many_cells):
        self.move = move
        self.state = state
        self.many_cells = many_cells


class Machine:
    """A run of an accepted program."""

    def __init__(self, scale, inputs, derivation, values):
        self._scale = scale
        self._cells = []
        self._made = []
        self._over = False
        bound = {}
        for at, (name, grade) in enumerate(inputs):
            bound[name] = self.new_cell(Grade.named(scale, grade), values[at])
        self._state = State(Closure(node_of(scale, derivation), Scope(bound)), None)

    def new_cell(self, grade, content):
        """Makes a cell; gives its number."""
        self._cells.append(Cell(grade, content))
        return len(self._cells) - 1

    def new_linear(self, content):
        """Makes a cell with the grade one; gives its number."""
        return self.new_cell(Grade.one(self._scale), content)

    def look_into(self, cell):
        """Looks at a cell; gives its content."""
        held = self._cells[cell]
        held.looked = held.looked + 1
        return held.content

    def go_to(self, following, waiting):
        """Makes this what is evaluated next, and what waits for its value."""
        self._state = State(following, waiting)

    def step(self):
        """Makes the next move; gives it, or None if no move is left."""
        ahead = settled(self._state)
        if at_end(ahead):
            self._state = ahead
            self._over = True
            return None
        before = self._state
        many_cells = len(self._cells)
        move = make_move(self, ahead.following, ahead.waiting)
        self._made.append(Made(move, before, many_cells))
        return move

    def back(self):
        """Takes back the last move; tells whether there was one."""
        if not self._made:
            return False
        last = self._made.pop()
        if last.move[0] == "look":
            held = self._cells[last.move[1]]
            held.looked = held.looked - 1
        del self._cells[last.many_cells:]
        self._state = last.state
        self._over = False
        return True

    def finish(self, limit=2000):
        """Makes all moves that are left, up to a number of moves in all; gives the answer."""
        while not self._over:
            if len(self._made) >= limit and not at_end(settled(self._state)):
                raise OutOfMoves(limit)
            self.step()
        return self._state.following

    @property
    def done(self):
        """Whether the run is over."""
        return self._over

    @property
    def answer(self):
        """The integer that the program gives."""
        if not self._over:
            raise NotDone()
        return self._state.following

    def __len__(self):
        return len(self._cells)

    def looks(self, cell):
        """The number of looks at a cell so far."""
        return self._cells[cell].looked

    def grade_of(self, cell):
        """The grade of a cell."""
        return self._cells[cell].grade

    def freed(self, cell):
        """Whether a cell has been freed."""
        return not self._cells[cell].has_room()

    def demands(self):
        """The demands of all cells."""
        scale = self._scale
        found = [scale.zero_at] * len(self._cells)
        add_uses(scale, found, scale.one_at, self._state.following)
        waiting = self._state.waiting
        while waiting is not None:
            add_uses(scale, found, scale.one_at, waiting)
            waiting = waiting.outer
        # A content uses only cells that were made before its own, whose demand is complete by then.
        for cell in reversed(range(len(self._cells))):
            add_uses(scale, found, found[cell], self._cells[cell].content)
        return [Grade(scale, place) for place in found]


def add_uses(scale, found, demand, thing):
    """Adds what a thing that is demanded with a grade uses of the cells."""
    if demand == scale.zero_at:
        return
    for cell, place in uses_of(thing):
        found[cell] = scale.sum_at(found[cell], scale.product_at(demand, place))


def make_move(machine, now, waiting):
    """Makes the move that a settled state stands ahead of; gives it."""
    if isinstance(now, Turns):
        return make_turn(machine, now, waiting)
    if isinstance(now, Closure) and now.node.word == "name":
        cell = now.scope.cell_of(now.node.term[1])
        machine.go_to(machine.look_into(cell), waiting)
        return ("look", cell)
    make = MOVES[waiting.node.word]
    return make(machine, now, waiting)


def make_turn(machine, turns, waiting):
    """Makes a turn of a repetition."""
    if turns.many <= 0:
        machine.go_to(part_of(turns, 1), waiting)
        return ("turn", turns.many)
    cell = machine.new_cell(turns.node.grade, Turns(turns.node, turns.scope, turns.many - 1))
    machine.go_to(turns.node.inside(2, turns.scope, [cell]), waiting)
    return ("turn", turns.many, cell)


def make_call(machine, function, waiting):
    """Goes on with the body of a function."""
    cell = machine.new_cell(function.node.grade, part_of(waiting, 1))
    machine.go_to(function.node.inside(0, function.scope, [cell]), waiting.outer)
    return ("call", cell)


def make_split(machine, pair, waiting):
    """Goes on with the body under the halves of a pair."""
    first = machine.new_linear(part_of(pair, 0))
    second = machine.new_linear(part_of(pair, 1))
    machine.go_to(waiting.node.inside(1, waiting.scope, [first, second]), waiting.outer)
    return ("split", first, second)


def make_choice(machine, choice, waiting):
    """Goes on with the branch of the side of a choice."""
    cell = machine.new_linear(part_of(choice, 0))
    number = 1 if choice.node.word == "left" else 2
    machine.go_to(waiting.node.inside(number, waiting.scope, [cell]), waiting.outer)
    return ("choose", cell)


def make_opening(machine, box, waiting):
    """Goes on with the body under the content of a box."""
    cell = machine.new_cell(box.node.grade, part_of(box, 0))
    machine.go_to(waiting.node.inside(1, waiting.scope, [cell]), waiting.outer)
    return ("open", cell)


def make_test(machine, number, waiting):
    """Goes on with one of two branches."""
    above = number > 0
    machine.go_to(part_of(waiting, 1 if above else 2), waiting.outer)
    return ("test", above)


# The moves by the word of what waits for a value.
MOVES = {
    "call": make_call,
    "split": make_split,
    "case": make_choice,
    "unbox": make_opening,
    "test": make_test,
}
