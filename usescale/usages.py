"""Usages: for every name a grade of one scale."""

from usescale.errors import NoBound
from usescale.grades import Grade, check_one_scale


class Usage:
    """A grade for every name. Only the places of names whose grade is not zero are held."""

    def __init__(self, scale):
        self.scale = scale
        self._held = {}

    @classmethod
    def one_of(cls, scale, name):
        """The usage that gives one to the name and zero to all others."""
        made = cls(scale)
        if scale.one_at != scale.zero_at:
            made._held[name] = scale.one_at
        return made

    @staticmethod
    def total(scale, *usages):
        """The sum of all usages, added from the left."""
        found = Usage(scale)
        for usage in usages:
            found = found + usage
        return found

    def place_of(self, name):
        """The place of the name's grade."""
        return self._held.get(name, self.scale.zero_at)

    def names(self):
        """The names whose grade is not zero, ascending."""
        return sorted([str(name) for name in self._held])

    def without(self, *names):
        """The usage with zero for these names."""
        return usage_of(self.scale, {name: self._held[name] for name in self._held if name not in names})

    def copy(self):
        """A usage of its own with the same grades."""
        return usage_of(self.scale, self._held)

    def __getitem__(self, at):
        return Grade(self.scale, self.place_of(at))

    def __setitem__(self, at, worth):
        check_one_scale(self.scale, worth.scale)
        if worth.place != self.scale.zero_at:
            self._held[at] = worth.place
        elif at in self._held:
            del self._held[at]

    def __contains__(self, x):
        return x in self._held

    def __iter__(self):
        raise TypeError("a usage has no end; its names have one")

    def __len__(self):
        return len(self._held)

    def __str__(self):
        return " ".join([f"{name}:{self.scale.name_at(self.place_of(name))}" for name in self.names()])

    def __eq__(self, other):
        if not isinstance(other, Usage):
            return False
        return self.scale.label == other.scale.label and self._held == other._held

    def __le__(self, other):
        if not isinstance(other, Usage):
            return NotImplemented
        check_one_scale(self.scale, other.scale)
        names = either_names(self, other)
        return all([self.scale.within_at(self.place_of(name), other.place_of(name)) for name in names])

    def __add__(self, other):
        if not isinstance(other, Usage):
            return NotImplemented
        check_one_scale(self.scale, other.scale)
        names = either_names(self, other)
        return usage_of(self.scale, {name: self.scale.sum_at(self.place_of(name), other.place_of(name))
                                     for name in names})

    def __iadd__(self, other):
        if not isinstance(other, Usage):
            return NotImplemented
        found = self + other
        self._held.clear()
        self._held.update(found._held)
        return self

    def __or__(self, other):
        if not isinstance(other, Usage):
            return NotImplemented
        check_one_scale(self.scale, other.scale)
        bounds = {}
        for name in either_names(self, other):
            first = self.place_of(name)
            second = other.place_of(name)
            bound = self.scale.bound_at(first, second)
            if bound is None:
                raise NoBound(name, self.scale.name_at(first), self.scale.name_at(second))
            bounds[name] = bound
        return usage_of(self.scale, bounds)

    def __rmul__(self, other):
        if not isinstance(other, Grade):
            return NotImplemented
        check_one_scale(other.scale, self.scale)
        products = {name: self.scale.product_at(other.place, self._held[name]) for name in self._held}
        return usage_of(self.scale, products)


def usage_of(scale, places):
    """The usage that gives each name the grade at its place."""
    made = Usage(scale)
    for name in places:
        if places[name] != scale.zero_at:
            made._held[name] = places[name]
    return made


def either_names(first, second):
    """The names whose grade is not zero in one of two usages or in both, ascending."""
    found = {name: True for name in first.names() + second.names()}
    return sorted([str(name) for name in found])
