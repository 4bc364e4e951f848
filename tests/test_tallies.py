import unittest

from helpers import nested, plain_turns
from usescale.errors import BadScale, EndlessScale, UnknownGrade
from usescale.families import CutScale, LevelScale, PairScale, SpanScale, SubsetScale, TurnedScale
from usescale.scales import Scale
from usescale.tallies import ExactTally, LeastTally, MostTally

ORDERS = (
    (ExactTally(), lambda a, b: a == b),
    (MostTally(), lambda a, b: a <= b),
    (LeastTally(), lambda a, b: a >= b),
)

LONG = 10 ** 4000 - 1


def digits(number):
    """The number in decimal, figure by figure, from the right."""
    found = []
    while number > 0:
        number, last = divmod(number, 10 ** 18)
        found.append(f"{last:018d}")
    return "".join(reversed(found)).lstrip("0") or "0"


class TallyTest(unittest.TestCase):
    def test_attributes_and_labels(self):
        labels = {"(tally same)": ExactTally, "(tally up)": MostTally, "(tally down)": LeastTally}
        for label, make in labels.items():
            scale = make()
            self.assertIsInstance(scale, Scale)
            self.assertEqual((scale.label, scale.size, scale.zero_at, scale.one_at), (label, None, 0, 1))
            with self.assertRaises(EndlessScale):
                scale.places()

    def test_sums_products_and_order(self):
        for scale, holds in ORDERS:
            for a in (0, 1, 2, 7, 10 ** 59, LONG):
                for b in (0, 1, 3, 7, 10 ** 60, LONG):
                    self.assertEqual(scale.sum_at(a, b), a + b)
                    self.assertEqual(scale.product_at(a, b), a * b)
                    self.assertIs(scale.within_at(a, b), holds(a, b))

    def test_bounds(self):
        for a in (0, 1, 5, LONG):
            for b in (0, 1, 5, LONG - 1):
                self.assertEqual(ExactTally().bound_at(a, b), a if a == b else None)
                self.assertEqual(MostTally().bound_at(a, b), max(a, b))
                self.assertEqual(LeastTally().bound_at(a, b), min(a, b))

    def test_names(self):
        numbers = [0, 1, 9, 10, 64, 10 ** 59, 10 ** 60 - 1, 10 ** 60, 10 ** 60 + 1, 10 ** 120, 10 ** 120 + 10 ** 60,
                   5 * 10 ** 61, 10 ** 4299, 10 ** 4300, LONG, LONG * LONG, 10 ** 7999, 7 ** 9000]
        for number in numbers:
            for scale, _ in ORDERS:
                name = scale.name_at(number)
                self.assertTrue(name == digits(number))
                self.assertTrue(scale.at_name(name) == number)

    def test_strings_that_are_no_names(self):
        wrong = ["", "00", "01", "-0", "-1", "+1", " 1", "1 ", "1.0", "1e3", "1_000", "0x1", "many", "\u0661", "\u00b2",
                 "1\n", "0" * 5000, "0" + "9" * 4999, "1" * 5000 + "a", "1" * 5000 + "\u0661", "-" + "1" * 5000,
                 "<1/2>"]
        for scale, _ in ORDERS:
            for name in wrong:
                with self.subTest(name=name[:20]), self.assertRaises(UnknownGrade) as caught:
                    scale.at_name(name)
                self.assertTrue(caught.exception.name == name)

    def test_times(self):
        for scale, _ in ORDERS:
            for count in (0, 1, 2, 10 ** 59, 10 ** 60, 10 ** 62 - 1):
                self.assertEqual(scale.times_at(count), count)


class TurnsTest(unittest.TestCase):
    def test_the_least_grade_that_is_enough(self):
        numbers = range(5)
        for scale, holds in ORDERS:
            for start in numbers:
                for extra in numbers:
                    for factor in numbers:
                        enough = [t for t in range(60) if holds(start, t) and holds(extra + factor * t, t)]
                        least = [t for t in enough if all(holds(t, other) for other in enough)]
                        found = scale.turns_at(start, extra, factor)
                        self.assertEqual(found, least[0] if least else None, (scale.label, start, extra, factor))

    def test_long_numbers(self):
        self.assertEqual(ExactTally().turns_at(LONG, LONG, 0), LONG)
        self.assertIsNone(ExactTally().turns_at(LONG, LONG - 1, 0))
        self.assertEqual(ExactTally().turns_at(LONG, 0, 1), LONG)
        self.assertIsNone(ExactTally().turns_at(LONG, 0, 2))
        self.assertEqual(ExactTally().turns_at(0, 0, LONG), 0)
        self.assertEqual(MostTally().turns_at(LONG - 1, LONG, 0), LONG)
        self.assertEqual(MostTally().turns_at(LONG, 0, 1), LONG)
        self.assertIsNone(MostTally().turns_at(LONG, 1, 1))
        self.assertIsNone(MostTally().turns_at(1, 0, LONG))
        self.assertEqual(MostTally().turns_at(0, 0, LONG), 0)
        self.assertEqual(LeastTally().turns_at(LONG, LONG - 1, 0), LONG - 1)
        self.assertEqual(LeastTally().turns_at(LONG, 0, 1), LONG)
        self.assertEqual(LeastTally().turns_at(LONG, LONG, LONG), LONG)


class TallyPairTest(unittest.TestCase):
    def test_endless_pairs(self):
        for scale in (PairScale(ExactTally(), LevelScale(2)), PairScale(LevelScale(2), MostTally()),
                      PairScale(LeastTally(), ExactTally()),
                      PairScale(LevelScale(64), PairScale(LevelScale(64), MostTally()))):
            self.assertIsNone(scale.size)
            with self.assertRaises(EndlessScale):
                scale.places()

    def test_half_by_half(self):
        small = SpanScale(1)
        for tally, holds in ORDERS:
            scale, turned = PairScale(tally, small), PairScale(small, tally)
            self.assertEqual((scale.zero_at, scale.one_at), ((0, 0), (1, 2)))
            self.assertEqual((turned.zero_at, turned.one_at), ((0, 0), (2, 1)))
            self.assertEqual(scale.label, f"(pair {tally.label} (spans 1))")
            for a, x in ((0, 0), (3, 1), (LONG, 2)):
                for b, y in ((0, 1), (3, 2), (LONG, 0)):
                    self.assertEqual(scale.sum_at((a, x), (b, y)), (a + b, small.sum_at(x, y)))
                    self.assertEqual(turned.product_at((x, a), (y, b)), (small.product_at(x, y), a * b))
                    self.assertIs(scale.within_at((a, x), (b, y)), holds(a, b) and small.within_at(x, y))
                    self.assertIs(turned.within_at((x, a), (y, b)), holds(a, b) and small.within_at(x, y))
                    halves = (tally.bound_at(a, b), small.bound_at(x, y))
                    self.assertEqual(scale.bound_at((a, x), (b, y)), None if None in halves else halves)
                    self.assertEqual(turned.bound_at((x, a), (y, b)), None if None in halves else halves[::-1])

    def test_both_halves_endless(self):
        scale = PairScale(MostTally(), LeastTally())
        self.assertEqual(scale.bound_at((1, 1), (2, 2)), (2, 1))
        self.assertEqual(scale.turns_at((1, 5), (0, 0), (1, 0)), (1, 0))
        self.assertIsNone(scale.turns_at((1, 5), (1, 0), (1, 0)))
        self.assertIsNone(PairScale(LeastTally(), ExactTally()).bound_at((1, 1), (1, 2)))

    def test_names(self):
        scale = PairScale(PairScale(CutScale(1), MostTally()), LeastTally())
        long = digits(LONG * LONG)
        for place, name in ((((1, 10), 0), "<<many/10>/0>"), (((0, LONG * LONG), 1), f"<<0/{long}>/1>")):
            self.assertTrue(scale.name_at(place) == name)
            self.assertTrue(scale.at_name(name) == place)
        for name in ("<<many/10>/00>", "<<many/010>/0>", "<<many/-1>/0>", "<many/10/0>", "<<2/1>/0>", "<<0/1>/ 0>",
                     "7"):
            with self.assertRaises(UnknownGrade) as caught:
                scale.at_name(name)
            self.assertEqual(caught.exception.name, name)

    def test_times(self):
        for count in (0, 1, 12, 10 ** 60, 10 ** 62 - 1):
            self.assertEqual(PairScale(MostTally(), CutScale(0, period=7)).times_at(count), (count, count % 7))
            self.assertEqual(PairScale(SubsetScale(2), ExactTally()).times_at(count), (3 if count else 0, count))

    def test_turns(self):
        small = CutScale(2, order="up")
        for tally, _ in ORDERS:
            for start in (0, 2):
                for extra in (0, 1):
                    for factor in (0, 1, 2):
                        for place in small.places():
                            halves = (tally.turns_at(start, extra, factor), plain_turns(small, place, extra, factor))
                            expected = None if None in halves else halves
                            scale = PairScale(tally, small)
                            found = scale.turns_at((start, place), (extra, extra), (factor, factor))
                            self.assertEqual(found, expected)
        self.assertIsNone(PairScale(CutScale(2), MostTally()).turns_at((1, 0), (0, 0), (0, 0)))

    def test_turned_scales_are_not_endless(self):
        deep = nested(lambda inner: PairScale(inner, LevelScale(1)), MostTally(), 19)
        for inner in (ExactTally(), MostTally(), LeastTally(), PairScale(LevelScale(2), MostTally()),
                      PairScale(ExactTally(), LevelScale(2)), deep):
            with self.assertRaises(EndlessScale):
                TurnedScale(inner)

    def test_depth_twenty_and_twenty_one(self):
        for make in (lambda inner: PairScale(inner, MostTally()), lambda inner: PairScale(ExactTally(), inner)):
            deep = nested(make, LevelScale(2), 19)
            self.assertIsNone(deep.size)
            self.assertEqual(deep.at_name(deep.name_at(deep.one_at)), deep.one_at)
            self.assertEqual(deep.sum_at(deep.zero_at, deep.one_at), deep.times_at(1))
            with self.assertRaises(BadScale):
                make(deep)
            with self.assertRaises(BadScale):
                PairScale(LevelScale(1), deep)

    def test_tallies_have_the_depth_one(self):
        deep = nested(lambda inner: PairScale(inner, LeastTally()), MostTally(), 19)
        self.assertEqual(deep.label.count("(pair "), 19)
        with self.assertRaises(BadScale):
            PairScale(deep, LeastTally())


if __name__ == "__main__":
    unittest.main()
