"""The rules of regular scales, and the first one that a scale breaks."""


class Listing:
    """A scale with finitely many grades as tables over the positions of its places."""

    def __init__(self, scale):
        places = scale.places()
        many = range(len(places))
        self.grade_names = [scale.name_at(place) for place in places]
        self.zero_at = places.index(scale.zero_at)
        self.one_at = places.index(scale.one_at)
        self.sums = [[places.index(scale.sum_at(first, second)) for second in places] for first in places]
        self.products = [[places.index(scale.product_at(first, second)) for second in places] for first in places]
        self.within = [[scale.within_at(first, second) for second in places] for first in places]
        self.bounds = [[scale.bound_at(first, second) for second in places] for first in places]
        self.bounded = [[any([self.within[a][u] and self.within[b][u] for u in many]) for b in many] for a in many]


def same_holds(s, a):
    return s.within[a][a]


def both_holds(s, a, b):
    return a == b or not (s.within[a][b] and s.within[b][a])


def chain_holds(s, a, b, c):
    return s.within[a][c] or not (s.within[a][b] and s.within[b][c])


def sum_swap_holds(s, a, b):
    return s.sums[a][b] == s.sums[b][a]


def sum_group_holds(s, a, b, c):
    return s.sums[s.sums[a][b]][c] == s.sums[a][s.sums[b][c]]


def sum_zero_holds(s, a):
    return s.sums[a][s.zero_at] == a


def product_group_holds(s, a, b, c):
    return s.products[s.products[a][b]][c] == s.products[a][s.products[b][c]]


def product_one_holds(s, a):
    return s.products[s.one_at][a] == a and s.products[a][s.one_at] == a


def product_zero_holds(s, a):
    return s.products[s.zero_at][a] == s.zero_at and s.products[a][s.zero_at] == s.zero_at


def spread_left_holds(s, a, b, c):
    return s.products[a][s.sums[b][c]] == s.sums[s.products[a][b]][s.products[a][c]]


def spread_right_holds(s, a, b, c):
    return s.products[s.sums[a][b]][c] == s.sums[s.products[a][c]][s.products[b][c]]


def sum_within_holds(s, a, b, c):
    return s.within[s.sums[a][c]][s.sums[b][c]] or not s.within[a][b]


def left_within_holds(s, a, b, c):
    return s.within[s.products[a][c]][s.products[b][c]] or not s.within[a][b]


def right_within_holds(s, a, b, c):
    return s.within[s.products[c][a]][s.products[c][b]] or not s.within[a][b]


def bound_holds(s, a, b):
    return s.bounds[a][b] is not None or not s.bounded[a][b]


# In the order in which the rules are tested.
RULES = {
    "same": same_holds,
    "both": both_holds,
    "chain": chain_holds,
    "sum-swap": sum_swap_holds,
    "sum-group": sum_group_holds,
    "sum-zero": sum_zero_holds,
    "product-group": product_group_holds,
    "product-one": product_one_holds,
    "product-zero": product_zero_holds,
    "spread-left": spread_left_holds,
    "spread-right": spread_right_holds,
    "sum-within": sum_within_holds,
    "left-within": left_within_holds,
    "right-within": right_within_holds,
    "bound": bound_holds,
}

# How many grades each rule speaks of.
SPOKEN_OF = {
    "same": 1,
    "both": 2,
    "chain": 3,
    "sum-swap": 2,
    "sum-group": 3,
    "sum-zero": 1,
    "product-group": 3,
    "product-one": 1,
    "product-zero": 1,
    "spread-left": 3,
    "spread-right": 3,
    "sum-within": 3,
    "left-within": 3,
    "right-within": 3,
    "bound": 2,
}


def first_fault(scale):
    """None for a regular scale, otherwise the first broken rule and the names of the first grades that break it."""
    if scale.size is None:
        return None
    listing = Listing(scale)
    for word in RULES:
        broken = first_break(listing, word)
        if broken is not None:
            return word, tuple([listing.grade_names[grade] for grade in broken])
    return None


def first_break(listing, word):
    """The first grades that break a rule, or None."""
    holds = RULES[word]
    for grades in rows_of(len(listing.grade_names), SPOKEN_OF[word]):
        if not holds(listing, *grades):
            return grades
    return None


def rows_of(many, length):
    """All rows of numbers below many of a length, in ascending order."""
    rows = [()]
    for _ in range(length):
        rows = [(*row, number) for row in rows for number in range(many)]
    return rows
