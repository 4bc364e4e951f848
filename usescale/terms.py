"""Terms: their free names, their size and depth, renamed binders, and substitution."""

from usescale.forms import binder_positions, bound_names, grades_and_kinds, part_positions, term_parts
from usescale.names import new_name


class Image:
    """A term that stands in for a name, with its free names."""

    def __init__(self, term):
        self.term = term
        self.free = free_names(term)


def free_names(term):
    """The free names of a term, ascending."""
    found = {}
    waiting = [(term, {})]
    while waiting:
        part, hidden = waiting.pop()
        if part[0] == "name" and part[1] not in hidden:
            found[part[1]] = True
        for number, inner in enumerate(term_parts(part)):
            waiting.append((inner, with_marks(hidden, bound_names(part, number))))
    return sorted([str(name) for name in found])


def with_marks(marks, names):
    """The dict with True for these names."""
    found = dict(marks)
    for name in names:
        found[name] = True
    return found


def term_size(term):
    """The number of terms in a term, itself included."""
    size = 0
    waiting = [term]
    while waiting:
        size = size + 1
        waiting.extend(term_parts(waiting.pop()))
    return size


def term_depth(term):
    """How deep a term is; a term without parts has the depth 1."""
    depth = 0
    level = [term]
    while level:
        depth = depth + 1
        level = [inner for part in level for inner in term_parts(part)]
    return depth


def alike(first, second):
    """Whether two terms are equal up to the names of their binders."""
    waiting = [(first, second, {}, {})]
    binders = 0
    while waiting:
        part, other, meaning, other_meaning = waiting.pop()
        if not same_outside(part, other, meaning, other_meaning):
            return False
        other_parts = term_parts(other)
        for number, inner in enumerate(term_parts(part)):
            inner_meaning, other_inner_meaning = dict(meaning), dict(other_meaning)
            for at in binder_positions(part, number):
                binders = binders + 1
                inner_meaning[part[at]] = binders
                other_inner_meaning[other[at]] = binders
            waiting.append((inner, other_parts[number], inner_meaning, other_inner_meaning))
    return True


def same_outside(first, second, meaning, other_meaning):
    """Whether two terms are alike as far as can be seen outside their parts.

    The meanings give the numbers of the binders that the names of each term mean.
    """
    if first[0] != second[0]:
        return False
    if first[0] == "int":
        return first[1] == second[1]
    if first[0] == "name":
        # A free name means itself.
        return meaning.get(first[1], first[1]) == other_meaning.get(second[1], second[1])
    return grades_and_kinds(first) == grades_and_kinds(second)


def substitute(term, images):
    """The term with all free names that have an image replaced by their images, all at once."""
    return replaced(term, {name: Image(images[name]) for name in images})


def replaced(term, images):
    """The term with the free names replaced to which a dict gives Images."""
    if term[0] == "name":
        return images[term[1]].term if term[1] in images else term
    row = list(term)
    for number, position in enumerate(part_positions(term)):
        part = term[position]
        names = bound_names(term, number)
        inner = images_inside(part, names, images)
        if not inner:
            continue
        fresh = fresh_names(part, names, inner)
        for at in binder_positions(term, number):
            row[at] = fresh.get(term[at], term[at])
        for name in fresh:
            inner[name] = Image(("name", fresh[name]))
        row[position] = replaced(part, inner)
    return tuple(row)


def images_inside(part, names, images):
    """Those images that may be needed in a part in which these names are bound."""
    if not names:
        return dict(images)
    free = free_names(part)
    return {name: images[name] for name in images if name in free and name not in names}


def fresh_names(part, names, images):
    """New names for those of the names bound in a part that would bind a free name of an image."""
    caught = {name: True for key in images for name in images[key].free}
    taken = with_marks(with_marks(caught, names), free_names(part))
    fresh = {}
    for name in names:
        if name in caught and name not in fresh:
            fresh[name] = new_name(taken)
            taken[fresh[name]] = True
    return fresh
