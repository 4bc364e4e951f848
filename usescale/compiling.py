"""Codes for accepted programs."""

from usescale.forms import INT, KEPT, bound_names
from usescale.operations import OPERATIONS
from usescale.rules import bound_kinds
from usescale.terms import free_names


class Entry:
    """An entry of a block, with its kind."""

    def __init__(self, number, kind):
        self.number = number
        self.kind = kind


class Draft:
    """A block whose rows are still to be written.

    The names stand for the slots; used is the usage of the entries that the slots tell.
    """

    def __init__(self, node, names, kinds):
        self.node = node
        self.slots = [(kind, node.usage[name].name) for name, kind in zip(names, kinds)]
        self.entries = {}
        for number, name in enumerate(names):
            self.entries[name] = Entry(number, kinds[number])
        self.many_entries = len(names)
        self.rows = []

    def new_entries(self, entries, names, kinds):
        """The entries with new ones for these names behind all others of the block."""
        found = dict(entries)
        for name, kind in zip(names, kinds):
            found[name] = Entry(self.many_entries, kind)
            self.many_entries = self.many_entries + 1
        return found

    def finished(self):
        """The block with the rows that were written."""
        return tuple(self.slots), self.node.kind, tuple(self.rows)


def compile_code(scale, inputs, derivation):
    """A code for an accepted program. Its slots have the grades that the program uses, whatever the scale is."""
    names = [name for name, _ in inputs]
    drafts = [Draft(derivation, names, [INT for _ in names])]
    written = 0
    while written < len(drafts):
        draft = drafts[written]
        # Blocks are put behind all others that are told so far, so each stands behind the one that mentions it.
        write_rows(drafts, draft, draft.node, draft.entries)
        written = written + 1
    return [draft.finished() for draft in drafts]


def write_rows(drafts, draft, node, entries):
    """Writes the rows that leave the value of a node; entries are those that its names stand for."""
    word = node.term[0]
    if word == "int":
        draft.rows.append(("push", node.term[1]))
    elif word == "name":
        draft.rows.append(("look", entries[node.term[1]].number))
    elif word in KEPT:
        draft.rows.append(kept_row(drafts, node, entries))
    else:
        write_rows(drafts, draft, node.parts[0], entries)
        write_use(drafts, draft, node, entries)


def kept_row(drafts, node, entries):
    """The instruction for a node that gives a value which keeps its parts."""
    word = node.term[0]
    blocks = new_blocks(drafts, node, entries, 0)
    if word == "pair":
        return (word, *blocks)
    if word == "fn":
        return (word, node.grade, node.term[3], *blocks)
    # The grade of a box, or the kind of the other side of a choice.
    return (word, node.term[1], *blocks)


def write_use(drafts, draft, node, entries):
    """Writes the rows that use the value of the first part of a node."""
    word = node.term[0]
    if word == "as":
        draft.rows.append((word, node.term[1]))
    elif word in OPERATIONS:
        write_rows(drafts, draft, node.parts[1], entries)
        draft.rows.append((word,))
    elif word in ("split", "unbox"):
        draft.rows.append(("open",) if word == "unbox" else (word,))
        inner = draft.new_entries(entries, bound_names(node.term, 1), bound_kinds(node.term, node.parts[:1]))
        write_rows(drafts, draft, node.parts[1], inner)
    elif word == "repeat":
        draft.rows.append((word, node.grade, *new_blocks(drafts, node, entries, 1)))
    else:
        draft.rows.append((word, *new_blocks(drafts, node, entries, 1)))


def new_blocks(drafts, node, entries, start):
    """For each part of a node from start on the number of a new block for it and what that block takes."""
    found = []
    for number in range(start, len(node.parts)):
        part = node.parts[number]
        bound = bound_names(node.term, number)
        taken = [name for name in free_names(part.term) if name not in bound]
        kinds = [entries[name].kind for name in taken] + bound_kinds(node.term, node.parts[:number])
        found.append(len(drafts))
        found.append(tuple([entries[name].number for name in taken]))
        drafts.append(Draft(part, taken + bound, kinds))
    return found
