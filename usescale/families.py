"""Scales of one family each, and scales that are made of scales."""

from usescale.counts import greater, item_of_run, lesser
from usescale.errors import BadScale, EndlessScale
from usescale.scales import MOST_GRADES, ListedScale, Scale

MOST_SUBSET_THINGS = 6
MOST_RELATION_THINGS = 2
ORDERS = ("same", "up", "down")


class CutScale(ListedScale):
    """The integers from 0, of which the high ones come back again and again."""

    def __init__(self, start, *, period=1, order="same"):
        if start < 0 or period < 1 or start + period > MOST_GRADES or order not in ORDERS:
            raise BadScale()
        if order != "same" and period != 1:
            raise BadScale()
        self._numbers = list(range(start + period))
        self._start = start
        self._order = order
        names = [str(number) for number in self._numbers]
        if period == 1:
            names[start] = "many"
        ListedScale.__init__(self, f"(cut {start} {period} {order})", names, 0, self.brought_back(1))

    def brought_back(self, number):
        """The grade that an integer counts as."""
        return item_of_run(self._numbers, self._start, number)

    def sum_at(self, first, second):
        return self.brought_back(first + second)

    def product_at(self, first, second):
        return self.brought_back(first * second)

    def within_at(self, first, second):
        if self._order == "up":
            return first <= second
        if self._order == "down":
            return first >= second
        return first == second


class LevelScale(ListedScale):
    """Levels of which the sum is the greater one and the product the lesser one."""

    def __init__(self, count):
        if not 1 <= count <= MOST_GRADES:
            raise BadScale()
        names = [str(number) for number in range(count)]
        ListedScale.__init__(self, f"(levels {count})", names, 0, count - 1)

    def sum_at(self, first, second):
        return greater(first, second)

    def product_at(self, first, second):
        return lesser(first, second)

    def within_at(self, first, second):
        return first <= second


class SubsetScale(ListedScale):
    """The sets of some of count things."""

    def __init__(self, count):
        if not 1 <= count <= MOST_SUBSET_THINGS:
            raise BadScale()
        names = binary_names(count)
        ListedScale.__init__(self, f"(subsets {count})", names, 0, len(names) - 1)

    def sum_at(self, first, second):
        return first | second

    def product_at(self, first, second):
        return first & second

    def within_at(self, first, second):
        return first & second == first


class SpanScale(ListedScale):
    """Pairs of a low and a high end."""

    def __init__(self, start):
        if start < 0 or (start + 1) * (start + 2) > 2 * MOST_GRADES:
            raise BadScale()
        self._ends = CutScale(start, order="up")
        many = start + 1
        self._spans = [(low, high) for low in range(many) for high in range(low, many)]
        self._positions = {self._spans[place]: place for place in range(len(self._spans))}
        names = [f"{self._ends.name_at(low)}to{self._ends.name_at(high)}" for low, high in self._spans]
        one = self._ends.one_at
        ListedScale.__init__(self, f"(spans {start})", names, 0, self._positions[one, one])

    def sum_at(self, first, second):
        low, high = self._spans[first]
        other_low, other_high = self._spans[second]
        return self._positions[self._ends.sum_at(low, other_low), self._ends.sum_at(high, other_high)]

    def product_at(self, first, second):
        low, high = self._spans[first]
        other_low, other_high = self._spans[second]
        return self._positions[self._ends.product_at(low, other_low), self._ends.product_at(high, other_high)]

    def within_at(self, first, second):
        low, high = self._spans[first]
        other_low, other_high = self._spans[second]
        return other_low <= low and high <= other_high


class RelationScale(ListedScale):
    """The relations on one thing or on two things."""

    def __init__(self, count):
        if not 1 <= count <= MOST_RELATION_THINGS:
            raise BadScale()
        self._count = count
        names = binary_names(count * count)
        # Row by row, "1001" relates the first thing to the first and the second to the second.
        one_at = names.index("1" if count == 1 else "1001")
        ListedScale.__init__(self, f"(relations {count})", names, 0, one_at)

    def sum_at(self, first, second):
        return first | second

    def product_at(self, first, second):
        things = range(self._count)
        place = 0
        for row in things:
            for column in things:
                linked = any([self.relates(first, row, link) and self.relates(second, link, column)
                              for link in things])
                place = place * 2 + (1 if linked else 0)
        return place

    def relates(self, place, row, column):
        """Whether the relation at a place relates the row's thing to the column's."""
        return self.name_at(place)[row * self._count + column] == "1"

    def within_at(self, first, second):
        return first & second == first


class PairScale(Scale):
    """Pairs of a grade of one scale and a grade of another, worked out half by half."""

    def __init__(self, left, right):
        size = None
        if left.size is not None and right.size is not None:
            size = left.size * right.size
            if size > MOST_GRADES:
                raise BadScale()
        self.left = left
        self.right = right
        zero_at = (left.zero_at, right.zero_at)
        one_at = (left.one_at, right.one_at)
        depth = greater(left.depth, right.depth) + 1
        Scale.__init__(self, f"(pair {left.label} {right.label})", size, zero_at, one_at, depth)

    def places(self):
        if self.size is None:
            raise EndlessScale()
        rights = self.right.places()
        return [(left, right) for left in self.left.places() for right in rights]

    def sum_at(self, first, second):
        return (self.left.sum_at(first[0], second[0]), self.right.sum_at(first[1], second[1]))

    def product_at(self, first, second):
        return (self.left.product_at(first[0], second[0]), self.right.product_at(first[1], second[1]))

    def within_at(self, first, second):
        return self.left.within_at(first[0], second[0]) and self.right.within_at(first[1], second[1])

    def bound_at(self, first, second):
        return both_halves(self.left.bound_at(first[0], second[0]), self.right.bound_at(first[1], second[1]))

    def name_at(self, place):
        return f"<{self.left.name_at(place[0])}/{self.right.name_at(place[1])}>"

    def find_at(self, name):
        at = slash_at(name)
        if at is None:
            return None
        return both_halves(self.left.find_at(name[1:at]), self.right.find_at(name[at + 1:-1]))

    def times_at(self, count):
        return (self.left.times_at(count), self.right.times_at(count))

    def power_at(self, place, count):
        return (self.left.power_at(place[0], count), self.right.power_at(place[1], count))

    def tails_at(self, place):
        return self.left.tails_at(place[0]) + self.right.tails_at(place[1])

    def turns_at(self, start, extra, factor):
        return both_halves(self.left.turns_at(start[0], extra[0], factor[0]),
                           self.right.turns_at(start[1], extra[1], factor[1]))


class TurnedScale(Scale):
    """A scale with its order turned."""

    def __init__(self, inner):
        if inner.size is None:
            raise EndlessScale()
        self.inner = inner
        Scale.__init__(self, f"(turned {inner.label})", inner.size, inner.zero_at, inner.one_at, inner.depth + 1)

    def places(self):
        return self.inner.places()

    def sum_at(self, first, second):
        return self.inner.sum_at(first, second)

    def product_at(self, first, second):
        return self.inner.product_at(first, second)

    def within_at(self, first, second):
        return self.inner.within_at(second, first)

    def name_at(self, place):
        return self.inner.name_at(place)

    def find_at(self, name):
        return self.inner.find_at(name)

    def times_at(self, count):
        return self.inner.times_at(count)

    def power_at(self, place, count):
        return self.inner.power_at(place, count)


def binary_names(length):
    """All strings of 0 and 1 of a length, in the order of the numbers that they are."""
    return [f"{place:b}".zfill(length) for place in range(1 << length)]


def both_halves(left, right):
    """The place of a pair, or None if a half has none."""
    if left is None or right is None:
        return None
    return (left, right)


def slash_at(name):
    """The position of the stroke between the halves of a pair's name, or None if this is no such name."""
    if not name.startswith("<") or not name.endswith(">"):
        return None
    pairs = 0
    for at in range(len(name)):
        if name[at] == "<":
            pairs = pairs + 1
        elif name[at] == ">":
            pairs = pairs - 1
        elif name[at] == "/" and pairs == 1:
            return at
    return None
