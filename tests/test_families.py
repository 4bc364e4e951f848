import unittest

from helpers import family_scales, names_of, plain_bound
from usescale.errors import BadScale, UnknownGrade
from usescale.families import CutScale, LevelScale, RelationScale, SpanScale, SubsetScale
from usescale.scales import Scale


class CutScaleTest(unittest.TestCase):
    def test_numbers_come_back(self):
        for start in range(4):
            for period in range(1, 5):
                scale = CutScale(start, period=period)
                for a in scale.places():
                    for b in scale.places():
                        for found, number in ((scale.sum_at(a, b), a + b), (scale.product_at(a, b), a * b)):
                            while number >= start + period:
                                number -= period
                            self.assertEqual(found, number)

    def test_names(self):
        self.assertEqual(names_of(CutScale(2)), ["0", "1", "many"])
        self.assertEqual(names_of(CutScale(0)), ["many"])
        self.assertEqual(names_of(CutScale(0, period=3)), ["0", "1", "2"])
        self.assertEqual(names_of(CutScale(1, period=2)), ["0", "1", "2"])
        self.assertEqual(names_of(CutScale(11))[9:], ["9", "10", "many"])

    def test_zero_and_one(self):
        for scale, one in ((CutScale(0), 0), (CutScale(1), 1), (CutScale(0, period=2), 1), (CutScale(5), 1)):
            with self.subTest(label=scale.label):
                self.assertEqual((scale.zero_at, scale.one_at), (0, one))

    def test_orders(self):
        for order, holds in (("same", lambda a, b: a == b), ("up", lambda a, b: a <= b), ("down", lambda a, b: a >= b)):
            scale = CutScale(3, order=order)
            for a in scale.places():
                for b in scale.places():
                    self.assertIs(scale.within_at(a, b), holds(a, b))

    def test_bounds_of_the_orders(self):
        self.assertIsNone(CutScale(3).bound_at(1, 2))
        self.assertEqual(CutScale(3).bound_at(2, 2), 2)
        self.assertEqual(CutScale(3, order="up").bound_at(1, 2), 2)
        self.assertEqual(CutScale(3, order="down").bound_at(1, 2), 1)

    def test_labels(self):
        self.assertEqual(CutScale(0).label, "(cut 0 1 same)")
        self.assertEqual(CutScale(2, period=3).label, "(cut 2 3 same)")
        self.assertEqual(CutScale(2, period=1, order="down").label, "(cut 2 1 down)")
        self.assertEqual(CutScale(10, order="up").label, "(cut 10 1 up)")

    def test_sixty_four_grades_and_sixty_five(self):
        self.assertEqual(CutScale(63).size, 64)
        self.assertEqual(CutScale(0, period=64).size, 64)
        self.assertEqual(CutScale(1, period=63).sum_at(63, 63), 63)
        for start, period in ((64, 1), (0, 65), (32, 33), (10 ** 60, 1), (0, 10 ** 60)):
            with self.subTest(start=start, period=period), self.assertRaises(BadScale):
                CutScale(start, period=period)

    def test_bad_arguments(self):
        for start, period, order in ((-1, 1, "same"), (-1, 2, "same"), (0, 0, "same"), (3, -1, "same"), (1, 1, "Same"),
                                     (1, 1, ""), (1, 1, "sideways"), (1, 2, "up"), (1, 2, "down"), (0, 64, "up"),
                                     (-5, 10, "same"), (1, 1, "same ")):
            with self.subTest(start=start, period=period, order=order), self.assertRaises(BadScale):
                CutScale(start, period=period, order=order)

    def test_period_and_order_are_passed_by_keyword(self):
        with self.assertRaises(TypeError):
            CutScale(1, 1)


class LevelScaleTest(unittest.TestCase):
    def test_all(self):
        scale = LevelScale(4)
        self.assertEqual((scale.size, scale.zero_at, scale.one_at, scale.label), (4, 0, 3, "(levels 4)"))
        self.assertEqual(names_of(scale), ["0", "1", "2", "3"])
        for a in range(4):
            for b in range(4):
                self.assertEqual(scale.sum_at(a, b), max(a, b))
                self.assertEqual(scale.product_at(a, b), min(a, b))
                self.assertIs(scale.within_at(a, b), a <= b)

    def test_one_level(self):
        scale = LevelScale(1)
        self.assertEqual((scale.zero_at, scale.one_at, scale.sum_at(0, 0), names_of(scale)), (0, 0, 0, ["0"]))

    def test_counts(self):
        self.assertEqual(LevelScale(64).size, 64)
        for count in (0, -1, 65, 10 ** 60):
            with self.subTest(count=count), self.assertRaises(BadScale):
                LevelScale(count)


class SubsetScaleTest(unittest.TestCase):
    def test_all(self):
        scale = SubsetScale(3)
        self.assertEqual((scale.size, scale.zero_at, scale.one_at, scale.label), (8, 0, 7, "(subsets 3)"))
        self.assertEqual(names_of(scale), ["000", "001", "010", "011", "100", "101", "110", "111"])
        things = [{k for k in range(3) if name[k] == "1"} for name in names_of(scale)]
        for a in range(8):
            for b in range(8):
                self.assertEqual(things[scale.sum_at(a, b)], things[a] | things[b])
                self.assertEqual(things[scale.product_at(a, b)], things[a] & things[b])
                self.assertIs(scale.within_at(a, b), things[a] <= things[b])

    def test_counts(self):
        self.assertEqual(SubsetScale(6).size, 64)
        self.assertEqual(SubsetScale(6).name_at(5), "000101")
        self.assertEqual(names_of(SubsetScale(1)), ["0", "1"])
        for count in (0, -1, 7, 10 ** 60):
            with self.subTest(count=count), self.assertRaises(BadScale):
                SubsetScale(count)


class SpanScaleTest(unittest.TestCase):
    def test_names_in_the_order_of_places(self):
        self.assertEqual(names_of(SpanScale(0)), ["manytomany"])
        self.assertEqual(names_of(SpanScale(1)), ["0to0", "0tomany", "manytomany"])
        self.assertEqual(names_of(SpanScale(2)), ["0to0", "0to1", "0tomany", "1to1", "1tomany", "manytomany"])

    def test_zero_and_one(self):
        for start, zero, one in ((0, "manytomany", "manytomany"), (1, "0to0", "manytomany"), (3, "0to0", "1to1")):
            scale = SpanScale(start)
            self.assertEqual((scale.name_at(scale.zero_at), scale.name_at(scale.one_at)), (zero, one))

    def test_end_by_end(self):
        scale = SpanScale(3)
        ends = [(low, high) for low in range(4) for high in range(low, 4)]
        for a, (low, high) in enumerate(ends):
            for b, (other_low, other_high) in enumerate(ends):
                total = (min(3, low + other_low), min(3, high + other_high))
                product = (min(3, low * other_low), min(3, high * other_high))
                self.assertEqual(scale.sum_at(a, b), ends.index(total))
                self.assertEqual(scale.product_at(a, b), ends.index(product))
                self.assertIs(scale.within_at(a, b), other_low <= low and high <= other_high)

    def test_starts(self):
        self.assertEqual((SpanScale(9).size, SpanScale(9).label), (55, "(spans 9)"))
        for start in (-1, 10, 10 ** 60):
            with self.subTest(start=start), self.assertRaises(BadScale):
                SpanScale(start)


class RelationScaleTest(unittest.TestCase):
    def test_product(self):
        scale = RelationScale(2)
        pairs = [{(k // 2, k % 2) for k in range(4) if name[k] == "1"} for name in names_of(scale)]
        for a in range(16):
            for b in range(16):
                linked = {(i, k) for i, j in pairs[a] for h, k in pairs[b] if h == j}
                self.assertEqual(pairs[scale.product_at(a, b)], linked)
                self.assertEqual(pairs[scale.sum_at(a, b)], pairs[a] | pairs[b])
                self.assertIs(scale.within_at(a, b), pairs[a] <= pairs[b])

    def test_the_product_does_not_commute(self):
        scale = RelationScale(2)
        first, second = scale.at_name("1000"), scale.at_name("0100")
        self.assertEqual(scale.name_at(scale.product_at(first, second)), "0100")
        self.assertEqual(scale.name_at(scale.product_at(second, first)), "0000")

    def test_names_and_places(self):
        scale = RelationScale(2)
        self.assertEqual((scale.size, scale.zero_at, scale.one_at, scale.label), (16, 0, 9, "(relations 2)"))
        self.assertEqual(scale.name_at(scale.one_at), "1001")
        self.assertEqual(names_of(scale), [f"{place:04b}" for place in range(16)])
        one = RelationScale(1)
        self.assertEqual((one.size, one.one_at, names_of(one), one.product_at(1, 1)), (2, 1, ["0", "1"], 1))

    def test_counts(self):
        for count in (0, -1, 3, 10 ** 60):
            with self.subTest(count=count), self.assertRaises(BadScale):
                RelationScale(count)


class AllFamiliesTest(unittest.TestCase):
    def test_what_all_have(self):
        for scale in family_scales():
            with self.subTest(label=scale.label):
                self.assertIsInstance(scale, Scale)
                self.assertEqual(scale.places(), list(range(scale.size)))
                for place in scale.places():
                    self.assertEqual(scale.at_name(scale.name_at(place)), place)
                scale.places().clear()
                self.assertEqual(len(scale.places()), scale.size)

    def test_bounds(self):
        for scale in family_scales():
            for first in scale.places():
                for second in scale.places():
                    self.assertEqual(scale.bound_at(first, second), plain_bound(scale, first, second), scale.label)

    def test_strings_that_are_no_names(self):
        wrong = {
            CutScale(2): ["2", "3", "Many", "many ", "00", "01", "+1", "-1", " 1", "1 ", "1.0", "0x1", "\u0661", ""],
            CutScale(0, period=3): ["many", "3", "-0", "02", "2_"],
            CutScale(0): ["0", "many0"],
            LevelScale(3): ["many", "3", "02", "+2", "2\n"],
            SubsetScale(3): ["0", "00", "0000", "0b1", "002", "-01", "01 ", "7"],
            SpanScale(2): ["0to2", "1to0", "0", "0to", "to1", "0 to 1", "0to1to", "many", "00to1", "(0, 1)"],
            RelationScale(2): ["1", "100", "10010", "9", "+001", "10_1"],
            RelationScale(1): ["00", "2", ""],
        }
        for scale, names in wrong.items():
            for name in names:
                with self.subTest(label=scale.label, name=name), self.assertRaises(UnknownGrade) as caught:
                    scale.at_name(name)
                self.assertEqual(caught.exception.name, name)


if __name__ == "__main__":
    unittest.main()
