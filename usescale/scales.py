"""The base class of all scales, and the scales that are given as tables."""

from usescale.counts import Tail, item_of_run
from usescale.errors import BadScale, EndlessScale, UnknownGrade

MOST_DEPTH = 20
MOST_GRADES = 64
MOST_NAMES = 16
MOST_SIGNS = 12
NAME_SIGNS = "abcdefghijklmnopqrstuvwxyz0123456789"


class Scale:
    """What all scales have in common.

    A class below tells sums, products, the order and the names. What is worked out here from these goes over all
    places, so a class whose scales may be endless works it out in its own way.
    """

    def __init__(self, label, size, zero_at, one_at, depth):
        if depth > MOST_DEPTH:
            raise BadScale()
        self.label = label
        self.size = size
        self.zero_at = zero_at
        self.one_at = one_at
        self.depth = depth

    def places(self):
        """All places in ascending order."""
        if self.size is None:
            raise EndlessScale()
        return list(range(self.size))

    def sum_at(self, first, second):
        """The place of the sum of two grades."""
        raise NotImplementedError("each class of scales has its own sums")

    def product_at(self, first, second):
        """The place of the product of two grades."""
        raise NotImplementedError("each class of scales has its own products")

    def within_at(self, first, second):
        """Whether the first grade lies within the second."""
        raise NotImplementedError("each class of scales has its own order")

    def bound_at(self, first, second):
        """The place of the least bound of two grades, or None."""
        uppers = [place for place in self.places() if self.within_at(first, place) and self.within_at(second, place)]
        for place in uppers:
            if self.within_all(place, uppers):
                return place
        return None

    def within_all(self, place, others):
        """Whether the grade at a place lies within the grades at all other ones."""
        for other in others:
            if not self.within_at(place, other):
                return False
        return True

    def name_at(self, place):
        """The name of a grade."""
        raise NotImplementedError("each class of scales has its own names")

    def find_at(self, name):
        """The place of the grade with the name, or None."""
        raise NotImplementedError("each class of scales has its own names")

    def at_name(self, name):
        """The place of the grade with the name."""
        place = self.find_at(name)
        if place is None:
            raise UnknownGrade(name)
        return place

    def times_at(self, count):
        """The place of the sum of as many ones as count says, added from the left."""
        if count == 0:
            return self.zero_at
        trail, back = self.ones()
        return item_of_run(trail, back, count - 1)

    def ones(self):
        """The sums of 1, 2, .. ones up to the last new one, and the position of the one that comes then."""
        trail = [self.one_at]
        following = self.sum_at(self.one_at, self.one_at)
        while following not in trail:
            trail.append(following)
            following = self.sum_at(following, self.one_at)
        return trail, trail.index(following)

    def power_at(self, place, count):
        """The place of one times as many times a grade as count says, multiplied from the left."""
        trail = [self.one_at]
        following = self.product_at(self.one_at, place)
        while following not in trail:
            trail.append(following)
            following = self.product_at(following, place)
        return item_of_run(trail, trail.index(following), count)

    def tails_at(self, place):
        """Tails whose common counts, from the greatest of their starts on, are those that fit a grade."""
        trail, back = self.ones()
        period = len(trail) - back
        rests = [(at + 1) % period for at in range(back, len(trail)) if self.within_at(trail[at], place)]
        return [Tail(back + 1, period, rests, 0, None)]

    def turns_at(self, start, extra, factor):
        """The place of the least grade from start on that takes in extra and factor times itself, or None."""
        turns = start
        for _ in range(self.size + 1):
            following = self.bound_at(turns, self.sum_at(extra, self.product_at(factor, turns)))
            if following is None:
                return None
            if following == turns:
                return turns
            turns = following
        return None


class ListedScale(Scale):
    """A scale whose places are the positions in a list of names."""

    def __init__(self, label, names, zero_at, one_at):
        Scale.__init__(self, label, len(names), zero_at, one_at, 1)
        self._names = list(names)
        self._found = {names[place]: place for place in range(len(names))}

    def name_at(self, place):
        return self._names[place]

    def find_at(self, name):
        return self._found.get(name)


class TableScale(ListedScale):
    """A scale that is given as tables. It need not be regular."""

    def __init__(self, names, within, sums, products, *, zero, one):
        check_names(names)
        check_table(within, len(names))
        found = {names[place]: place for place in range(len(names))}
        self._within = [[bool(entry) for entry in row] for row in within]
        self._sums = places_in(sums, found)
        self._products = places_in(products, found)
        if zero not in found or one not in found:
            raise BadScale()
        rows = ["".join(["1" if entry else "0" for entry in row]) for row in within]
        label = in_row(["table", in_row(names), zero, one, in_row(rows), in_rows(sums), in_rows(products)])
        ListedScale.__init__(self, label, names, found[zero], found[one])

    def sum_at(self, first, second):
        return self._sums[first][second]

    def product_at(self, first, second):
        return self._products[first][second]

    def within_at(self, first, second):
        return self._within[first][second]


def check_names(names):
    """Raises BadScale if these are no names of a table."""
    if not 1 <= len(names) <= MOST_NAMES or len(set(names)) != len(names):
        raise BadScale()
    for name in names:
        if not 1 <= len(name) <= MOST_SIGNS or not all([sign in NAME_SIGNS for sign in name]):
            raise BadScale()


def check_table(table, size):
    """Raises BadScale if a table is not as many rows as size says, each with as many entries."""
    if len(table) != size or any([len(row) != size for row in table]):
        raise BadScale()


def places_in(table, found):
    """The table of the places of the names in a table; found tells the place of each name."""
    check_table(table, len(found))
    if any([entry not in found for row in table for entry in row]):
        raise BadScale()
    return [[found[entry] for entry in row] for row in table]


def in_row(words):
    """The words as a part of a label."""
    row = " ".join(words)
    return f"({row})"


def in_rows(table):
    """The entries of a table, row by row, as a part of a label."""
    return in_row([entry for row in table for entry in row])
