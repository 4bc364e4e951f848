"""Grades: scales with one of their places."""

from usescale.counts import common_tail, greater
from usescale.errors import MixedScales, NegativeCount, NoBound


class Grade:
    """A scale with one of its places."""

    def __init__(self, scale, place):
        self.scale = scale
        self.place = place
        self.name = scale.name_at(place)

    @classmethod
    def named(cls, scale, name):
        """The grade with the name."""
        return cls(scale, scale.at_name(name))

    @classmethod
    def zero(cls, scale):
        """The grade zero of a scale."""
        return cls(scale, scale.zero_at)

    @classmethod
    def one(cls, scale):
        """The grade one of a scale."""
        return cls(scale, scale.one_at)

    def __str__(self):
        return str(self.name)

    def __eq__(self, other):
        if not isinstance(other, Grade):
            return False
        return self.scale.label == other.scale.label and self.place == other.place

    def __le__(self, other):
        if not isinstance(other, Grade):
            return NotImplemented
        check_one_scale(self.scale, other.scale)
        return self.scale.within_at(self.place, other.place)

    def __lt__(self, other):
        if not isinstance(other, Grade):
            return NotImplemented
        check_one_scale(self.scale, other.scale)
        return self.place != other.place and self.scale.within_at(self.place, other.place)

    def __add__(self, other):
        if not isinstance(other, Grade):
            return NotImplemented
        check_one_scale(self.scale, other.scale)
        return Grade(self.scale, self.scale.sum_at(self.place, other.place))

    def __mul__(self, other):
        if not isinstance(other, Grade):
            return NotImplemented
        check_one_scale(self.scale, other.scale)
        return Grade(self.scale, self.scale.product_at(self.place, other.place))

    def __or__(self, other):
        if not isinstance(other, Grade):
            return NotImplemented
        check_one_scale(self.scale, other.scale)
        place = self.scale.bound_at(self.place, other.place)
        if place is None:
            raise NoBound("", self.name, other.name)
        return Grade(self.scale, place)

    def __rmul__(self, other):
        if not isinstance(other, int):
            return NotImplemented
        if other < 0:
            raise NegativeCount(other)
        return Grade(self.scale, self.scale.product_at(self.scale.times_at(other), self.place))

    def __pow__(self, other):
        return self.power(other)

    def power(self, count):
        """One times as many times this grade as count says, multiplied from the left."""
        if count < 0:
            raise NegativeCount(count)
        return Grade(self.scale, self.scale.power_at(self.place, count))

    def fits(self, count):
        """Whether the sum of count ones lies within this grade; there is no such sum for a count below 0."""
        return count >= 0 and self.scale.within_at(self.scale.times_at(count), self.place)

    def room(self, count):
        """Whether some count greater than this one fits."""
        least = greater(count + 1, 0)
        tail = common_tail(self.scale.tails_at(self.place))
        for small in range(least, tail.start):
            if self.fits(small):
                return True
        return tail.goes_on(least)

    @property
    def idle(self):
        """Whether no count of at least 1 fits."""
        return not self.room(0)


def check_one_scale(first, second):
    """Raises MixedScales if two scales are not the same."""
    if first.label != second.label:
        raise MixedScales()
