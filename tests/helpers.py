"""Scales to test with, and the words of the document worked out in the plainest way."""

import itertools
import random

from usescale.families import (CutScale, LevelScale, PairScale, RelationScale, SpanScale, SubsetScale,
                               TurnedScale)
from usescale.scales import TableScale


def family_scales():
    """At least one scale of each family, with the edges that the document names."""
    return [
        CutScale(0), CutScale(0, period=3), CutScale(2), CutScale(2, period=3), CutScale(1, order="up"),
        CutScale(3, order="down"), CutScale(0, order="up"), LevelScale(1), LevelScale(2), LevelScale(5),
        SubsetScale(1), SubsetScale(3), SpanScale(0), SpanScale(1), SpanScale(3), RelationScale(1), RelationScale(2),
    ]


def made_scales():
    """Pairs and turned scales of few grades."""
    return [
        PairScale(LevelScale(2), CutScale(1, order="up")),
        PairScale(CutScale(0, period=2), CutScale(0, period=3)),
        PairScale(PairScale(LevelScale(2), LevelScale(1)), SubsetScale(2)),
        TurnedScale(CutScale(3, order="up")), TurnedScale(SpanScale(1)),
        TurnedScale(PairScale(CutScale(1, order="down"), SubsetScale(1))),
        PairScale(TurnedScale(LevelScale(3)), TurnedScale(TurnedScale(SpanScale(1)))),
    ]


def random_table(seed, size):
    """A table without any order in it, of names n0, n1 and so on."""
    source = random.Random(seed)
    names = [f"n{place}" for place in range(size)]
    within = [[source.random() < 0.6 for _ in names] for _ in names]
    sums = [[source.choice(names) for _ in names] for _ in names]
    products = [[source.choice(names) for _ in names] for _ in names]
    return TableScale(names, within, sums, products, zero=source.choice(names), one=source.choice(names))


def wild_tables():
    """Tables that are not regular."""
    return [random_table(seed, 1 + seed % 6) for seed in range(40)]


def as_table(scale, **changes):
    """The scale as a TableScale with the names g0, g1 and so on; changes replaces what is handed in."""
    places = scale.places()
    names = [f"g{index}" for index in range(len(places))]

    def named(place):
        return names[places.index(place)]

    given = {
        "within": [[scale.within_at(a, b) for b in places] for a in places],
        "sums": [[named(scale.sum_at(a, b)) for b in places] for a in places],
        "products": [[named(scale.product_at(a, b)) for b in places] for a in places],
        "zero": named(scale.zero_at), "one": named(scale.one_at),
    }
    given.update(changes)
    return TableScale(names, given["within"], given["sums"], given["products"], zero=given["zero"], one=given["one"])


def plain_least(scale, places):
    """The grade among these that lies within all of them, the one with the lowest place; None if there is none."""
    for place in places:
        if all(scale.within_at(place, other) for other in places):
            return place
    return None


def plain_bound(scale, first, second):
    """The least bound in the words of point 2."""
    return plain_least(scale, [place for place in scale.places()
                               if scale.within_at(first, place) and scale.within_at(second, place)])


def plain_turns(scale, start, extra, factor):
    """The turns in the words of point 9, for a scale with finitely many grades that is no pair."""
    turns = start
    for _ in range(scale.size + 1):
        bound = plain_bound(scale, turns, scale.sum_at(extra, scale.product_at(factor, turns)))
        if bound is None or bound == turns:
            return bound
        turns = bound
    return None


def plain_times(scale, count):
    """The sum of count ones, one by one from the left."""
    if count == 0:
        return scale.zero_at
    place = scale.one_at
    for _ in range(count - 1):
        place = scale.sum_at(place, scale.one_at)
    return place


def names_of(scale):
    """The names of all grades in the order of their places."""
    return [scale.name_at(place) for place in scale.places()]


def nested(make, inner, times):
    """The scale that comes of making a scale of a scale as often as told."""
    for _ in range(times):
        inner = make(inner)
    return inner


def plain_rules(scale):
    """The rules of point 3 in their order: the word, how many grades it speaks of, and whether it holds."""
    add, times, within, places = scale.sum_at, scale.product_at, scale.within_at, scale.places()
    zero, one = scale.zero_at, scale.one_at

    def bounded(a, b):
        return any(within(a, u) and within(b, u) for u in places)

    return [
        ("same", 1, lambda a: within(a, a)),
        ("both", 2, lambda a, b: a == b if within(a, b) and within(b, a) else True),
        ("chain", 3, lambda a, b, c: within(a, c) if within(a, b) and within(b, c) else True),
        ("sum-swap", 2, lambda a, b: add(a, b) == add(b, a)),
        ("sum-group", 3, lambda a, b, c: add(add(a, b), c) == add(a, add(b, c))),
        ("sum-zero", 1, lambda a: add(a, zero) == a),
        ("product-group", 3, lambda a, b, c: times(times(a, b), c) == times(a, times(b, c))),
        ("product-one", 1, lambda a: times(one, a) == a == times(a, one)),
        ("product-zero", 1, lambda a: times(zero, a) == zero == times(a, zero)),
        ("spread-left", 3, lambda a, b, c: times(a, add(b, c)) == add(times(a, b), times(a, c))),
        ("spread-right", 3, lambda a, b, c: times(add(a, b), c) == add(times(a, c), times(b, c))),
        ("sum-within", 3, lambda a, b, c: within(add(a, c), add(b, c)) if within(a, b) else True),
        ("left-within", 3, lambda a, b, c: within(times(a, c), times(b, c)) if within(a, b) else True),
        ("right-within", 3, lambda a, b, c: within(times(c, a), times(c, b)) if within(a, b) else True),
        ("bound", 2, lambda a, b: plain_bound(scale, a, b) is not None if bounded(a, b) else True),
    ]


def plain_faults(scale):
    """The first break of each rule that does not hold, in the words of point 3."""
    found = []
    for word, many, holds in plain_rules(scale):
        for grades in itertools.product(scale.places(), repeat=many):
            if not holds(*grades):
                found.append((word, tuple(scale.name_at(grade) for grade in grades)))
                break
    return found
