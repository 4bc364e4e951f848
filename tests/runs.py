"""Help for tests of the machine and of the code machine."""

from made_terms import accepted_programs
from plain_check import INT
from usescale.checker import check_program
from usescale.errors import NotDone, OutOfMoves
from usescale.machine import Machine
from usescale.plain import run_plain
from usescale.reader import read_program
from usescale.tallies import ExactTally


def machine_of(text, *values, scale=None):
    """A machine for the text of a program."""
    scale = scale or ExactTally()
    inputs, term = read_program(text)
    return Machine(scale, inputs, check_program(scale, inputs, term), list(values))


def steps_of(machine):
    """All moves up to the end."""
    found = []
    while True:
        move = machine.step()
        if move is None:
            return found
        found.append(move)


def told_cells(machine):
    """The number of cells, with the looks and grades of all of them and whether they are freed."""
    cells = range(len(machine))
    return (len(machine), [machine.looks(cell) for cell in cells], [machine.grade_of(cell).name for cell in cells],
            [machine.freed(cell) for cell in cells])


def told_end(machine):
    """Whether the run is over, with the answer then."""
    try:
        return machine.done, machine.answer
    except NotDone:
        return machine.done, None


def told_machine(machine):
    """All that can be asked of a machine."""
    return told_cells(machine), told_end(machine), [grade.name for grade in machine.demands()]


def kinds_of(inputs):
    """The kinds of the inputs by their names."""
    return {name: INT for name, _ in inputs}


def short_programs(scale, many, depth=5, most=300):
    """Accepted programs with values, whose runs have no more moves than most, with their derivations."""
    found = []
    for inputs, term, values in accepted_programs(scale, many, depth):
        try:
            run_plain(term, values, most)
        except OutOfMoves:
            continue
        found.append((inputs, term, values, check_program(scale, inputs, term)))
    return found
