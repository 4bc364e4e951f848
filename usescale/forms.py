"""The forms of kinds and terms: what stands in them, and where."""

INT = ("int",)
GAP = "?"

# What stands behind the word of a kind, in written order. The kind int has nothing behind its word.
KIND_FIELDS = {
    "fun": ("grade", "kind", "kind"),
    "pair": ("kind", "kind"),
    "either": ("kind", "kind"),
    "box": ("grade", "kind"),
}

# What stands behind the word of a term, in written order. Integers and names alone have no word in a text.
TERM_FIELDS = {
    "add": ("term", "term"),
    "sub": ("term", "term"),
    "mul": ("term", "term"),
    "fn": ("binder", "gap", "kind", "term"),
    "call": ("term", "term"),
    "pair": ("term", "term"),
    "split": ("binder", "binder", "term", "term"),
    "left": ("kind", "term"),
    "right": ("kind", "term"),
    "case": ("term", "binder", "term", "binder", "term"),
    "box": ("grade", "term"),
    "unbox": ("binder", "term", "term"),
    "test": ("term", "term", "term"),
    "repeat": ("term", "binder", "gap", "term", "term"),
    "as": ("kind", "term"),
    "gone": ("kind",),
}

# For each part of a term, the positions in the term of the names that are bound in this part.
BINDERS = {
    "fn": ((1,),),
    "split": ((), (1, 2)),
    "case": ((), (2,), (4,)),
    "unbox": ((), (1,)),
    "repeat": ((), (), (2,)),
}

# What these forms give keeps the term and what is bound around it; nothing inside is evaluated.
KEPT = ("fn", "pair", "left", "right", "box")

# The position of the grade that may be a gap.
GAP_AT = {"fn": 2, "repeat": 3}


def part_positions(term):
    """The positions in a term of its parts."""
    fields = TERM_FIELDS.get(term[0], ())
    return [at for at, field in enumerate(fields, start=1) if field == "term"]


def term_parts(term):
    """The parts of a term in written order."""
    return [term[at] for at in part_positions(term)]


def with_parts(term, parts):
    """The term with other parts."""
    row = list(term)
    for at, part in zip(part_positions(term), parts):
        row[at] = part
    return tuple(row)


def binder_positions(term, number):
    """The positions in a term of the names that are bound in the part with the number."""
    if term[0] not in BINDERS:
        return ()
    return BINDERS[term[0]][number]


def bound_names(term, number):
    """The names that are bound in the part of a term with the number."""
    return [term[at] for at in binder_positions(term, number)]


def has_gap(term):
    """Whether a gap stands in a term outside its parts."""
    return term[0] in GAP_AT and term[GAP_AT[term[0]]] == GAP


def grades_and_kinds(term):
    """The grades and the kinds that are written in a term outside its parts."""
    fields = TERM_FIELDS.get(term[0], ())
    return [term[at] for at, field in enumerate(fields, start=1) if field in ("grade", "gap", "kind")]


def grades_written(term):
    """The names of grades that are written in a term outside its parts, in written order; a gap is none."""
    written = grades_and_kinds(term)
    if has_gap(term):
        # In both forms with a gap the grade stands ahead of all kinds.
        written = written[1:]
    return [grade for part in written for grade in grades_in(part)]


def grades_in(part):
    """The names of grades that are written in a kind, in written order; the name of a grade is written in itself."""
    found = []
    waiting = [part]
    while waiting:
        following = waiting.pop()
        if isinstance(following, str):
            found.append(following)
        else:
            waiting.extend(following[1:][::-1])
    return found
