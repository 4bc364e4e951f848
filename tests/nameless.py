"""Terms without the names of their binders, and wild terms whose kinds and grades are of no matter."""

import random

INT = ("int",)
KINDS = (INT, ("fun", "1", INT, INT), ("pair", INT, ("box", "0", INT)), ("either", INT, INT), ("box", "many", INT))
WORDS = ("int", "name", "add", "sub", "mul", "fn", "call", "pair", "split", "left", "right", "case", "box", "unbox",
         "test", "repeat", "as", "gone")


def nameless(term, names=()):
    """The term with the distance to its binder for each bound name; the innermost binder stands first in names."""
    def inside(part, *bound):
        return nameless(part, bound + names)

    word = term[0]
    if word == "name":
        return ("bound", names.index(term[1])) if term[1] in names else ("free", term[1])
    if word in ("int", "gone"):
        return term
    if word in ("add", "sub", "mul", "call", "pair", "test"):
        return (word, *[inside(part) for part in term[1:]])
    if word in ("left", "right", "as", "box"):
        return (word, term[1], inside(term[2]))
    if word == "fn":
        return (word, term[2], term[3], inside(term[4], term[1]))
    if word == "split":
        return (word, inside(term[3]), inside(term[4], term[2], term[1]))
    if word == "case":
        return (word, inside(term[1]), inside(term[3], term[2]), inside(term[5], term[4]))
    if word == "unbox":
        return (word, inside(term[2]), inside(term[3], term[1]))
    _, e, x, g, z, s = term
    return (word, inside(e), g, inside(z), inside(s, x))


def with_images(row, images):
    """The nameless term with nameless images for its free names."""
    if not isinstance(row, tuple):
        return row
    if len(row) == 2 and row[0] == "free":
        return images.get(row[1], row)
    return tuple(with_images(part, images) for part in row)


def free_in(row):
    """The free names of a nameless term."""
    if not isinstance(row, tuple):
        return set()
    if len(row) == 2 and row[0] == "free":
        return {row[1]}
    return set().union(*[free_in(part) for part in row])


def binders_of(term):
    """The names that are bound anywhere in a term, in written order."""
    word = term[0]
    if word in ("int", "name", "gone"):
        return []
    found = []
    for part in term[1:]:
        if isinstance(part, str):
            found.append(part)
        elif part[0] in WORDS and part != INT:
            found.extend(binders_of(part))
    if word in ("box",):
        found = found[1:]
    if word in ("fn", "repeat"):
        at = found.index(term[2] if word == "fn" else term[3])
        found = found[:at] + found[at + 1:]
    return found


def wild_term(source, depth, names):
    """A term of any form."""
    word = source.choice(WORDS) if depth > 1 else source.choice(("int", "name", "name", "name", "gone"))

    def part():
        return wild_term(source, depth - 1, names)

    def name():
        return source.choice(names)

    def kind():
        return source.choice(KINDS)

    def grade(*more):
        return source.choice(("0", "1", "many", "<0/1>") + more)

    made = {
        "int": lambda: (word, source.choice((0, 1, -7, 10 ** 59))), "name": lambda: (word, name()),
        "fn": lambda: (word, name(), grade("?"), kind(), part()), "call": lambda: (word, part(), part()),
        "split": lambda: (word, name(), name(), part(), part()), "left": lambda: (word, kind(), part()),
        "right": lambda: (word, kind(), part()), "case": lambda: (word, part(), name(), part(), name(), part()),
        "box": lambda: (word, grade(), part()), "unbox": lambda: (word, name(), part(), part()),
        "test": lambda: (word, part(), part(), part()), "as": lambda: (word, kind(), part()),
        "repeat": lambda: (word, part(), name(), grade("?"), part(), part()), "gone": lambda: (word, kind()),
    }
    return made[word]() if word in made else (word, part(), part())


def wild_terms(many, depth=5, names=("a", "b", "x", "y"), seed=1):
    source = random.Random(seed)
    return [wild_term(source, source.randint(1, depth), names) for _ in range(many)]


def one_of_each():
    """A term of each form, by its word."""
    a, b, c = ("name", "a"), ("name", "b"), ("name", "c")
    return {
        "int": ("int", -3), "name": a, "add": ("add", a, b), "sub": ("sub", a, b), "mul": ("mul", a, b),
        "fn": ("fn", "x", "1", INT, a), "call": ("call", a, b), "pair": ("pair", a, b),
        "split": ("split", "x", "y", a, b), "left": ("left", INT, a), "right": ("right", INT, a),
        "case": ("case", a, "x", b, "y", c), "box": ("box", "1", a), "unbox": ("unbox", "x", a, b),
        "test": ("test", a, b, c), "repeat": ("repeat", a, "x", "1", b, c), "as": ("as", INT, a),
        "gone": ("gone", ("pair", INT, INT)),
    }


def text_of_each():
    """The written forms of the terms of each form, by their words."""
    return {
        "int": "-3", "name": "a", "add": "(add a b)", "sub": "(sub a b)", "mul": "(mul a b)",
        "fn": "(fn x 1 int a)", "call": "(call a b)", "pair": "(pair a b)", "split": "(split x y a b)",
        "left": "(left int a)", "right": "(right int a)", "case": "(case a x b y c)", "box": "(box 1 a)",
        "unbox": "(unbox x a b)", "test": "(test a b c)", "repeat": "(repeat a x 1 b c)", "as": "(as int a)",
        "gone": "(gone (pair int int))",
    }


def each_step():
    """For each part of each form a function that puts a term there; the other parts are of size 1."""
    b, kind = ("name", "b"), ("fun", "1", INT, INT)
    return [
        lambda t: ("add", t, b), lambda t: ("add", b, t), lambda t: ("sub", t, b), lambda t: ("sub", b, t),
        lambda t: ("mul", t, b), lambda t: ("mul", b, t), lambda t: ("fn", "x", "?", kind, t),
        lambda t: ("call", t, b), lambda t: ("call", b, t), lambda t: ("pair", t, b), lambda t: ("pair", b, t),
        lambda t: ("split", "x", "y", t, b), lambda t: ("split", "x", "y", b, t), lambda t: ("left", kind, t),
        lambda t: ("right", kind, t), lambda t: ("case", t, "x", b, "y", b), lambda t: ("case", b, "x", t, "y", b),
        lambda t: ("case", b, "x", b, "y", t), lambda t: ("box", "1", t), lambda t: ("unbox", "x", t, b),
        lambda t: ("unbox", "x", b, t), lambda t: ("test", t, b, b), lambda t: ("test", b, t, b),
        lambda t: ("test", b, b, t), lambda t: ("repeat", t, "x", "1", b, b),
        lambda t: ("repeat", b, "x", "?", t, b), lambda t: ("repeat", b, "x", "1", b, t), lambda t: ("as", kind, t),
    ]


def deep_term(inner, times):
    """The inner term in parts of all forms, one around the other, as often as told."""
    steps = each_step()
    for at in range(times):
        inner = steps[at % len(steps)](inner)
    return inner
