"""The forms of instructions: where in them blocks and grades stand."""

# The position of the first block of an instruction. Behind it come what the block takes and the next block.
FIRST_BLOCK = {
    "fn": 3,
    "call": 1,
    "pair": 1,
    "left": 2,
    "right": 2,
    "case": 1,
    "box": 2,
    "test": 1,
    "repeat": 2,
}

# The numbers, among the blocks of an instruction, of those with a last slot that is not taken.
WITH_LAST_SLOT = {"fn": (0,), "case": (0, 1), "repeat": (1,)}

# Instructions that make moves.
MOVING = ("look", "call", "split", "case", "open", "test", "repeat")


def blocks_in(row):
    """The numbers of the blocks of an instruction, each with what it takes."""
    if row[0] not in FIRST_BLOCK:
        return []
    return [(row[at], row[at + 1]) for at in range(FIRST_BLOCK[row[0]], len(row), 2)]


def grades_and_kinds_in(row):
    """The grades and the kinds that are written in an instruction."""
    if row[0] == "as":
        return [row[1]]
    return list(row[1:FIRST_BLOCK[row[0]]]) if row[0] in FIRST_BLOCK else []


def has_last_slot(row, number):
    """Whether the block with the number, among those of an instruction, has a last slot that is not taken."""
    return number in WITH_LAST_SLOT.get(row[0], ())
