import unittest

from helpers import made_scales, names_of, nested, plain_bound, plain_times, wild_tables
from usescale.errors import BadScale, UnknownGrade
from usescale.families import CutScale, LevelScale, PairScale, RelationScale, SpanScale, SubsetScale, TurnedScale
from usescale.scales import Scale


def few_wild_tables():
    return [scale for scale in wild_tables() if scale.size <= 4]


class PairScaleTest(unittest.TestCase):
    def test_attributes(self):
        left, right = LevelScale(2), CutScale(1, order="up")
        scale = PairScale(left, right)
        self.assertIsInstance(scale, Scale)
        self.assertIs(scale.left, left)
        self.assertIs(scale.right, right)
        self.assertEqual((scale.size, scale.zero_at, scale.one_at), (4, (0, 0), (1, 1)))
        self.assertEqual(scale.label, "(pair (levels 2) (cut 1 1 up))")

    def test_places_are_in_order_of_the_left_half_first(self):
        scale = PairScale(LevelScale(2), LevelScale(3))
        self.assertEqual(scale.places(), [(0, 0), (0, 1), (0, 2), (1, 0), (1, 1), (1, 2)])
        self.assertEqual(names_of(scale), ["<0/0>", "<0/1>", "<0/2>", "<1/0>", "<1/1>", "<1/2>"])
        scale.places().pop()
        self.assertEqual(len(scale.places()), 6)

    def test_half_by_half(self):
        relations, cut = RelationScale(2), CutScale(1, order="down")
        for left, right in ((relations, cut), (cut, relations)):
            scale = PairScale(left, right)
            for a in scale.places():
                for b in scale.places():
                    sums = (left.sum_at(a[0], b[0]), right.sum_at(a[1], b[1]))
                    products = (left.product_at(a[0], b[0]), right.product_at(a[1], b[1]))
                    self.assertEqual((scale.sum_at(a, b), scale.product_at(a, b)), (sums, products))
                    self.assertIs(scale.within_at(a, b), left.within_at(a[0], b[0]) and right.within_at(a[1], b[1]))

    def test_both_halves_must_lie_within(self):
        scale = PairScale(CutScale(1, order="up"), CutScale(1, order="up"))
        found = [scale.within_at(a, b) for a in [(0, 1)] for b in [(0, 0), (0, 1), (1, 0), (1, 1)]]
        self.assertEqual(found, [False, True, False, True])

    def test_bounds(self):
        wild = few_wild_tables()
        scales = made_scales() + [PairScale(a, b) for a, b in zip(wild, wild[1:])]
        for scale in scales:
            for first in scale.places():
                for second in scale.places():
                    self.assertEqual(scale.bound_at(first, second), plain_bound(scale, first, second), scale.label)

    def test_a_bound_that_a_half_has_not(self):
        scale = PairScale(CutScale(1), LevelScale(2))
        self.assertIsNone(scale.bound_at((0, 0), (1, 0)))
        self.assertIsNone(PairScale(LevelScale(2), CutScale(1)).bound_at((0, 0), (0, 1)))
        self.assertEqual(scale.bound_at((0, 0), (0, 1)), (0, 1))

    def test_names_of_pairs_in_pairs(self):
        inner = PairScale(LevelScale(2), CutScale(1))
        for scale in (PairScale(inner, SubsetScale(2)), PairScale(SpanScale(1), inner), PairScale(inner, inner)):
            for place in scale.places():
                self.assertEqual(scale.at_name(scale.name_at(place)), place)
        self.assertEqual(PairScale(inner, SubsetScale(2)).name_at(((1, 1), 2)), "<<1/many>/10>")
        self.assertEqual(PairScale(SpanScale(1), inner).name_at((1, (0, 0))), "<0tomany/<0/0>>")

    def test_strings_that_are_no_names(self):
        flat = PairScale(LevelScale(2), CutScale(1))
        deep = PairScale(flat, LevelScale(2))
        wrong = {
            flat: ["", "0", "0/0", "<0/0", "0/0>", "<0 /0>", "<0/ 0>", "< 0/0>", "<0/0> ", "<0,0>", "<00>", "<0/1>",
                   "<2/0>", "<0/0/0>", "<00/0>", "<+0/0>", "<0/>", "</0>", "<>", "</>", "<", ">", "/", "<0//0>",
                   "<<0/0>>", "<0/0)", "<0/0<", "<0/00", "(0/0>", "00/0>", "/0/0>", "<many/0>", "(0/0)", "<0/0>0",
                   "0<0/0>", "(0, 0)"],
            deep: ["<0/0>", "<<0/0>/0", "<<0/0/0>", "<0/<0/0>>", "<<0/0>/0>>", "<<0/0>/<0/0>>", "<<0/0>0>",
                   "<<0>/0/0>", "<0/0>/0>", "<><0/0>/0>", "<" * 5000, "<" * 5000 + "0/0" + ">" * 5000],
        }
        for scale, names in wrong.items():
            for name in names:
                with self.subTest(label=scale.label, name=name[:40]), self.assertRaises(UnknownGrade) as caught:
                    scale.at_name(name)
                self.assertEqual(caught.exception.name, name)

    def test_sixty_four_grades_and_more(self):
        self.assertEqual(PairScale(LevelScale(8), LevelScale(8)).size, 64)
        self.assertEqual(PairScale(LevelScale(64), LevelScale(1)).size, 64)
        self.assertEqual(PairScale(PairScale(LevelScale(4), LevelScale(4)), LevelScale(4)).size, 64)
        for left, right in ((5, 13), (64, 2), (2, 33), (64, 64)):
            with self.subTest(left=left, right=right), self.assertRaises(BadScale):
                PairScale(LevelScale(left), LevelScale(right))

    def test_depth_twenty_and_twenty_one(self):
        one, two = LevelScale(1), LevelScale(2)
        left = nested(lambda inner: PairScale(inner, one), two, 19)
        right = nested(lambda inner: PairScale(one, inner), two, 19)
        both = nested(lambda inner: PairScale(one, TurnedScale(inner)), PairScale(one, two), 9)
        for deep in (left, right, both):
            self.assertEqual(deep.size, 2)
            self.assertEqual([deep.at_name(name) for name in names_of(deep)], deep.places())
            self.assertEqual(deep.times_at(10 ** 61), deep.one_at)
            for pair in ((deep, one), (one, deep)):
                with self.assertRaises(BadScale):
                    PairScale(*pair)
            with self.assertRaises(BadScale):
                TurnedScale(deep)

    def test_times(self):
        scale = PairScale(CutScale(1, period=4), CutScale(0, period=6))
        for count in (0, 1, 2, 5, 11, 12, 13, 24, 25, 100):
            self.assertEqual(scale.times_at(count), plain_times(scale, count))
        self.assertEqual(scale.times_at(12 * 10 ** 60 + 5), plain_times(scale, 17))


class TurnedScaleTest(unittest.TestCase):
    def test_only_the_order_is_turned(self):
        for inner in made_scales() + few_wild_tables() + [SpanScale(2)]:
            scale = TurnedScale(inner)
            places = inner.places()
            self.assertIsInstance(scale, Scale)
            self.assertIs(scale.inner, inner)
            self.assertEqual(scale.label, f"(turned {inner.label})")
            self.assertEqual((scale.size, scale.zero_at, scale.one_at), (inner.size, inner.zero_at, inner.one_at))
            self.assertEqual((scale.places(), names_of(scale)), (places, names_of(inner)))
            for a in places:
                self.assertEqual(scale.at_name(inner.name_at(a)), a)
                for b in places:
                    self.assertEqual(scale.sum_at(a, b), inner.sum_at(a, b))
                    self.assertEqual(scale.product_at(a, b), inner.product_at(a, b))
                    self.assertIs(scale.within_at(a, b), inner.within_at(b, a))
                    self.assertEqual(scale.bound_at(a, b), plain_bound(scale, a, b))

    def test_the_lowest_place_of_several_least_bounds(self):
        for inner in wild_tables():
            twice = TurnedScale(TurnedScale(inner))
            for a in inner.places():
                for b in inner.places():
                    self.assertEqual(twice.bound_at(a, b), inner.bound_at(a, b))

    def test_unknown_grade(self):
        scale = TurnedScale(PairScale(LevelScale(2), LevelScale(2)))
        for name in ("<0/2>", "0", "(turned <0/0>)"):
            with self.assertRaises(UnknownGrade) as caught:
                scale.at_name(name)
            self.assertEqual(caught.exception.name, name)

    def test_depth(self):
        deep = nested(TurnedScale, CutScale(2, order="up"), 19)
        self.assertEqual(deep.label, "(turned " * 19 + "(cut 2 1 up)" + ")" * 19)
        self.assertEqual(deep.bound_at(0, 1), 0)
        with self.assertRaises(BadScale):
            TurnedScale(deep)


if __name__ == "__main__":
    unittest.main()
