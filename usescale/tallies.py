"""Tallies: scales whose grades are all integers from 0."""

from usescale.counts import Tail, from_decimal, greater, in_decimal, lesser
from usescale.errors import EndlessScale
from usescale.scales import Scale


class Tally(Scale):
    """What the tallies have in common; they differ in the order alone."""

    def __init__(self, order):
        Scale.__init__(self, f"(tally {order})", None, 0, 1, 1)

    def places(self):
        raise EndlessScale()

    def sum_at(self, first, second):
        return first + second

    def product_at(self, first, second):
        return first * second

    def name_at(self, place):
        return in_decimal(place)

    def find_at(self, name):
        return from_decimal(name)

    def times_at(self, count):
        return count

    def power_at(self, place, count):
        # The powers of 0 and 1 stay small, so their exponents may be of many figures.
        if place < 2:
            return 1 if count == 0 else place
        power = 1
        for _ in range(count):
            power = power * place
        return power


class ExactTally(Tally):
    """Each number lies within itself alone."""

    def __init__(self):
        Tally.__init__(self, "same")

    def within_at(self, first, second):
        return first == second

    def bound_at(self, first, second):
        return first if first == second else None

    def turns_at(self, start, extra, factor):
        return start if extra + factor * start == start else None

    def tails_at(self, place):
        return [Tail(0, 1, [0], place, place)]


class MostTally(Tally):
    """A number lies within those that are not lower."""

    def __init__(self):
        Tally.__init__(self, "up")

    def within_at(self, first, second):
        return first <= second

    def bound_at(self, first, second):
        return greater(first, second)

    def turns_at(self, start, extra, factor):
        if factor == 0:
            return greater(start, extra)
        if extra == 0 and (factor == 1 or start == 0):
            return start
        return None

    def tails_at(self, place):
        return [Tail(0, 1, [0], 0, place)]


class LeastTally(Tally):
    """A number lies within those that are not higher."""

    def __init__(self):
        Tally.__init__(self, "down")

    def within_at(self, first, second):
        return first >= second

    def bound_at(self, first, second):
        return lesser(first, second)

    def turns_at(self, start, extra, factor):
        # The least grade is the highest number here; with a factor of at least 1 no number is too high.
        return lesser(start, extra) if factor == 0 else start

    def tails_at(self, place):
        return [Tail(0, 1, [0], place, None)]
