"""Running codes over cells."""

from usescale.cells import Cell
from usescale.codes import MOVING, blocks_in
from usescale.errors import NotDone, OutOfMoves
from usescale.grades import Grade
from usescale.operations import OPERATIONS, operated


class Thunk:
    """A block with the cells of its first entries."""

    def __init__(self, block, cells):
        self.block = block
        self.cells = list(cells)


class Kept:
    """A value that an instruction keeps: the instruction, with the thunks of its blocks."""

    def __init__(self, row, thunks):
        self.row = row
        self.thunks = list(thunks)


class TurnsLeft:
    """A repetition with the thunks of its blocks and the turns that are left."""

    def __init__(self, row, thunks, many):
        self.row = row
        self.thunks = list(thunks)
        self.many = many


class Frame:
    """A block that is run: its rows and the next one of them, the cells of its entries and the stack of its values."""

    def __init__(self, rows, cells):
        self.rows = rows
        self.at = 0
        self.cells = list(cells)
        self.stack = []

    def next_row(self):
        """The next row, or None behind the last one."""
        return self.rows[self.at] if self.at < len(self.rows) else None

    def thunks_of(self, row):
        """The thunks of the blocks of an instruction."""
        return [Thunk(block, [self.cells[entry] for entry in take]) for block, take in blocks_in(row)]


class CodeMachine:
    """A run of a code that the judge accepts.

    The frames stand for the blocks that are run, each one for a value that the frame below it waits for. On top there
    may be turns that are to be taken.
    """

    def __init__(self, scale, code, grades, values):
        self._scale = scale
        self._rows = [rows for _, _, rows in code]
        self._cells = []
        self._frames = []
        self._moves_made = 0
        self._last_value = None
        self._over = False
        inputs = [self.new_cell(grade, values[at]) for at, grade in enumerate(grades)]
        self.run_block(Thunk(0, inputs), [])

    def new_cell(self, grade, content):
        """Makes a cell with the grade that has the name; gives its number."""
        self._cells.append(Cell(Grade.named(self._scale, grade), content))
        return len(self._cells) - 1

    def new_linear(self, content):
        """Makes a cell with the grade one; gives its number."""
        self._cells.append(Cell(Grade.one(self._scale), content))
        return len(self._cells) - 1

    def run_block(self, thunk, more_cells):
        """Goes on with the block of a thunk, with more cells behind its own ones."""
        self._frames.append(Frame(self._rows[thunk.block], thunk.cells + more_cells))

    def begin_turns(self, turns):
        """Goes on with turns that are to be taken."""
        self._frames.append(turns)

    def settle(self):
        """Does all that comes ahead of the next move; tells whether there is one."""
        while self._frames:
            frame = self._frames[-1]
            if isinstance(frame, TurnsLeft):
                return True
            row = frame.next_row()
            if row is None:
                self.leave_block()
            elif row[0] in MOVING:
                return True
            else:
                frame.at = frame.at + 1
                run_row(frame, row)
        return False

    def leave_block(self):
        """Hands the value of the block on top to the one below."""
        frame = self._frames.pop()
        self._last_value = frame.stack.pop()
        if self._frames:
            self._frames[-1].stack.append(self._last_value)

    def step(self):
        """Makes the next move; gives it, or None if no move is left."""
        if not self.settle():
            self._over = True
            return None
        self._moves_made = self._moves_made + 1
        frame = self._frames[-1]
        if isinstance(frame, TurnsLeft):
            self._frames.pop()
            return make_turn(self, frame)
        row = frame.next_row()
        frame.at = frame.at + 1
        make = MOVES[row[0]]
        return make(self, frame, row)

    def finish(self, limit=2000):
        """Makes all moves that are left, up to a number of moves in all; gives the answer."""
        while not self._over:
            if self._moves_made >= limit and self.settle():
                raise OutOfMoves(limit)
            self.step()
        return self._last_value

    @property
    def done(self):
        """Whether the run is over."""
        return self._over

    @property
    def answer(self):
        """The integer that the program gives."""
        if not self._over:
            raise NotDone()
        return self._last_value

    def __len__(self):
        return len(self._cells)

    def look_into(self, cell):
        """Looks at a cell; gives its content."""
        held = self._cells[cell]
        held.looked = held.looked + 1
        return held.content

    def looks(self, cell):
        """The number of looks at a cell so far."""
        return self._cells[cell].looked

    def grade_of(self, cell):
        """The grade of a cell."""
        return self._cells[cell].grade

    def freed(self, cell):
        """Whether a cell has been freed."""
        return not self._cells[cell].has_room()


def run_row(frame, row):
    """Runs an instruction that makes no move."""
    word = row[0]
    if word == "push":
        frame.stack.append(row[1])
    elif word in OPERATIONS:
        second = frame.stack.pop()
        first = frame.stack.pop()
        frame.stack.append(operated(word, first, second))
    elif word != "as":
        frame.stack.append(Kept(row, frame.thunks_of(row)))


def make_look(machine, frame, row):
    """Looks at an entry."""
    cell = frame.cells[row[1]]
    content = machine.look_into(cell)
    if isinstance(content, Thunk):
        machine.run_block(content, [])
    elif isinstance(content, TurnsLeft):
        machine.begin_turns(content)
    else:
        frame.stack.append(content)
    return ("look", cell)


def make_call(machine, frame, row):
    """Goes on with the block of a function."""
    function = frame.stack.pop()
    cell = machine.new_cell(function.row[1], frame.thunks_of(row)[0])
    machine.run_block(function.thunks[0], [cell])
    return ("call", cell)


def make_split(machine, frame, row):
    """Makes entries for the halves of a pair."""
    pair = frame.stack.pop()
    first = machine.new_linear(pair.thunks[0])
    second = machine.new_linear(pair.thunks[1])
    frame.cells.extend([first, second])
    return ("split", first, second)


def make_choice(machine, frame, row):
    """Goes on with the block for the side of a choice."""
    choice = frame.stack.pop()
    cell = machine.new_linear(choice.thunks[0])
    branches = frame.thunks_of(row)
    machine.run_block(branches[0] if choice.row[0] == "left" else branches[1], [cell])
    return ("choose", cell)


def make_opening(machine, frame, row):
    """Makes an entry for the content of a box."""
    box = frame.stack.pop()
    cell = machine.new_cell(box.row[1], box.thunks[0])
    frame.cells.append(cell)
    return ("open", cell)


def make_test(machine, frame, row):
    """Goes on with one of two blocks."""
    above = frame.stack.pop() > 0
    branches = frame.thunks_of(row)
    machine.run_block(branches[0] if above else branches[1], [])
    return ("test", above)


def make_first_turn(machine, frame, row):
    """Makes the first turn of a repetition."""
    return make_turn(machine, TurnsLeft(row, frame.thunks_of(row), frame.stack.pop()))


def make_turn(machine, turns):
    """Makes a turn of a repetition."""
    if turns.many <= 0:
        machine.run_block(turns.thunks[0], [])
        return ("turn", turns.many)
    cell = machine.new_cell(turns.row[1], TurnsLeft(turns.row, turns.thunks, turns.many - 1))
    machine.run_block(turns.thunks[1], [cell])
    return ("turn", turns.many, cell)


# The moves by the words of their instructions.
MOVES = {
    "look": make_look,
    "call": make_call,
    "split": make_split,
    "case": make_choice,
    "open": make_opening,
    "test": make_test,
    "repeat": make_first_turn,
}
