"""Maps that lead the grades of one scale to grades of another."""

from usescale.errors import BadMap, TooMany, UnknownGrade
from usescale.families import PairScale
from usescale.forms import GAP, KIND_FIELDS, TERM_FIELDS
from usescale.grades import Grade, check_one_scale
from usescale.tallies import ExactTally
from usescale.usages import Usage

MOST_SEARCHED = 6


class ScaleMap:
    """A map that is given as the list of its images."""

    def __init__(self, source, target, images):
        places = source.places()
        if len(images) != len(places):
            raise BadMap()
        for name in images:
            target.at_name(name)
        self.source = source
        self.target = target
        self._images = {source.name_at(place): name for place, name in zip(places, images)}

    @classmethod
    def same(cls, scale):
        """The map of a scale to itself that changes nothing."""
        return cls(scale, scale, [scale.name_at(place) for place in scale.places()])

    def image(self, name):
        """The name of the grade that the grade with a name is led to."""
        if name not in self._images:
            raise UnknownGrade(name)
        return self._images[name]

    def __call__(self, grade):
        return image_of(self, grade)

    def __eq__(self, other):
        if not isinstance(other, ScaleMap):
            return False
        return (self.source.label == other.source.label and self.target.label == other.target.label
                and self._images == other._images)

    def __mul__(self, other):
        if not isinstance(other, ScaleMap):
            return NotImplemented
        check_one_scale(other.target, self.source)
        images = [self.image(name) for name in other.image_names()]
        return ScaleMap(other.source, self.target, images)

    def image_names(self):
        """The names of the images in the order of the source's places."""
        return [self._images[self.source.name_at(place)] for place in self.source.places()]

    def fault(self):
        """None for a regular map, otherwise the first broken rule and the names of the first grades that show it."""
        images = [self.target.at_name(name) for name in self.image_names()]
        return first_break(self.source, self.target, images)


class CountMap:
    """The map that leads each count to the sum of as many ones."""

    def __init__(self, target):
        self.source = ExactTally()
        self.target = target

    def image(self, name):
        """The name of the grade that the grade with a name is led to."""
        return self.target.name_at(self.target.times_at(self.source.at_name(name)))

    def __call__(self, grade):
        return image_of(self, grade)


class HalfMap:
    """The map that leads each pair to one of its halves."""

    def __init__(self, source, side):
        if not isinstance(source, PairScale) or side not in ("left", "right"):
            raise BadMap()
        self.source = source
        self.target = source.left if side == "left" else source.right
        self._half = 0 if side == "left" else 1

    def image(self, name):
        """The name of the grade that the grade with a name is led to."""
        return self.target.name_at(self.source.at_name(name)[self._half])

    def __call__(self, grade):
        return image_of(self, grade)


def image_of(m, grade):
    """The image of a grade."""
    check_one_scale(m.source, grade.scale)
    return Grade.named(m.target, m.image(grade.name))


def first_break(source, target, images):
    """The first rule that a map breaks, with the names of the grades that show it, or None.

    images holds the places of the images of the source's first places. Nothing is told of the others, and no rule is
    broken by what it says of them.
    """
    told = source.places()[:len(images)]
    found = {source.name_at(place): image for place, image in zip(told, images)}
    if found.get(source.name_at(source.zero_at), target.zero_at) != target.zero_at:
        return "zero", ()
    if found.get(source.name_at(source.one_at), target.one_at) != target.one_at:
        return "one", ()
    for word in PAIR_RULES:
        holds = PAIR_RULES[word]
        for a, first in zip(told, images):
            for b, second in zip(told, images):
                if not holds(source, target, found, (a, b), (first, second)):
                    return word, (source.name_at(a), source.name_at(b))
    return None


def sum_holds(source, target, found, grades, images):
    """Whether the sum of two grades is led to the sum of their images."""
    wanted = target.sum_at(images[0], images[1])
    return found.get(source.name_at(source.sum_at(grades[0], grades[1])), wanted) == wanted


def product_holds(source, target, found, grades, images):
    """Whether the product of two grades is led to the product of their images."""
    wanted = target.product_at(images[0], images[1])
    return found.get(source.name_at(source.product_at(grades[0], grades[1])), wanted) == wanted


def within_holds(source, target, found, grades, images):
    """Whether the image of a grade lies within that of another if the grade lies within the other."""
    return target.within_at(images[0], images[1]) or not source.within_at(grades[0], grades[1])


# The rules about two grades, in the order in which they are tested.
PAIR_RULES = {
    "sum": sum_holds,
    "product": product_holds,
    "within": within_holds,
}


def regular_maps(source, target):
    """All regular maps from one scale to another, ascending by the places of their images."""
    for scale in (source, target):
        if scale.size is None or scale.size > MOST_SEARCHED:
            raise TooMany(scale.size)
    rows = [[]]
    for _ in range(source.size):
        longer = [[*row, image] for row in rows for image in target.places()]
        # What a map breaks on some grades it breaks whatever the images of the others are.
        rows = [row for row in longer if first_break(source, target, row) is None]
    return [ScaleMap(source, target, [target.name_at(image) for image in row]) for row in rows]


def carry_kind(m, kind):
    """The kind with every grade replaced by its image."""
    return carry_row(m, kind, KIND_FIELDS.get(kind[0], ()))


def carry_term(m, term):
    """The term with every grade replaced by its image; gaps stay."""
    if term[0] not in TERM_FIELDS:
        return term
    return carry_row(m, term, TERM_FIELDS[term[0]])


def carry_row(m, row, fields):
    """A kind or a term with every grade replaced by its image, told what stands behind its word."""
    carried = [row[0]]
    for field, part in zip(fields, row[1:]):
        if field == "kind":
            carried.append(carry_kind(m, part))
        elif field == "term":
            carried.append(carry_term(m, part))
        elif field == "grade" or (field == "gap" and part != GAP):
            carried.append(m.image(part))
        else:
            carried.append(part)
    return tuple(carried)


def carry_usage(m, usage):
    """The usage in which the names that are used have the images of their grades."""
    check_one_scale(m.source, usage.scale)
    carried = Usage(m.target)
    for name in usage.names():
        carried[name] = m(usage[name])
    return carried
