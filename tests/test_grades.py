import unittest

from helpers import as_table, family_scales, made_scales, plain_bound, plain_times, wild_tables
from usescale.errors import MixedScales, NegativeCount, NoBound, UnknownGrade
from usescale.families import CutScale, LevelScale, PairScale, RelationScale, SpanScale, SubsetScale, TurnedScale
from usescale.grades import Grade
from usescale.labels import read_scale
from usescale.scales import TableScale
from usescale.tallies import ExactTally, LeastTally, MostTally

LONG = (10 ** 59, 10 ** 60 - 1, 10 ** 60, 10 ** 61 + 3, 10 ** 62 - 1)


def some_scales():
    return [scale for scale in family_scales() + made_scales() + wild_tables() if scale.size <= 8]


def grades_of(scale):
    return [Grade(scale, place) for place in scale.places()]


def plain_power(scale, place, count):
    """One times count times the grade, one by one from the left."""
    found = scale.one_at
    for _ in range(count):
        found = scale.product_at(found, place)
    return found


class GradeTest(unittest.TestCase):
    def test_attributes_and_class_methods(self):
        scale = PairScale(CutScale(1), LevelScale(3))
        grade = Grade(scale, (1, 2))
        self.assertIs(grade.scale, scale)
        self.assertEqual((grade.place, grade.name, str(grade)), ((1, 2), "<many/2>", "<many/2>"))
        self.assertEqual(Grade.named(scale, "<0/1>").place, (0, 1))
        self.assertEqual((Grade.zero(scale).place, Grade.one(scale).place), ((0, 0), (1, 2)))
        for name in ("<0/3>", "", "0"):
            with self.assertRaises(UnknownGrade) as caught:
                Grade.named(scale, name)
            self.assertEqual(caught.exception.name, name)

    def test_operators_work_as_in_the_scale(self):
        for scale in some_scales():
            for a in grades_of(scale):
                for b in grades_of(scale):
                    places = (a.place, b.place)
                    self.assertEqual((a + b).place, scale.sum_at(*places))
                    self.assertEqual((a * b).place, scale.product_at(*places))
                    self.assertIs(a <= b, scale.within_at(*places))
                    self.assertIs(a < b, scale.within_at(*places) and a.place != b.place)
                    self.assertIs(a == b, a.place == b.place)
                    self.assertIs(a != b, a.place != b.place)
                    self.assertIsInstance(a + b, Grade)
                    bound = plain_bound(scale, *places)
                    if bound is not None:
                        self.assertEqual((a | b).place, bound)
                        continue
                    with self.assertRaises(NoBound) as caught:
                        a | b
                    error = caught.exception
                    self.assertEqual((error.name, error.first, error.second), ("", a.name, b.name))

    def test_no_bound_of_tallies(self):
        with self.assertRaises(NoBound) as caught:
            Grade(ExactTally(), 3) | Grade(ExactTally(), 10 ** 5000)
        self.assertEqual((caught.exception.name, caught.exception.first), ("", "3"))
        self.assertTrue(caught.exception.second == "1" + "0" * 5000)

    def test_less_is_not_the_same_as_within_both_ways(self):
        table = read_scale("(table (a b) a b (11 11) (a b b b) (a a a b))")
        a, b = grades_of(table)
        self.assertEqual((a < b, b < a, a < a, a <= a, a > b), (True, True, False, True, True))

    def test_the_same_scale_made_twice(self):
        first, second = Grade(CutScale(3, order="up"), 2), Grade(CutScale(3, order="up"), 2)
        self.assertTrue(first == second)
        self.assertEqual((first + second).name, "many")
        self.assertTrue(first <= second)

    def test_grades_of_other_scales(self):
        pairs = [(Grade(CutScale(2), 1), Grade(CutScale(3), 1)),
                 (Grade(CutScale(2), 1), Grade(CutScale(2, order="up"), 1)),
                 (Grade(MostTally(), 1), Grade(LeastTally(), 1)),
                 (Grade(LevelScale(2), 1), Grade(TurnedScale(LevelScale(2)), 1)),
                 (Grade(SubsetScale(1), 1), Grade(as_table(SubsetScale(1)), 1))]
        for a, b in pairs:
            for act in (lambda: a + b, lambda: a * b, lambda: a <= b, lambda: a < b, lambda: a | b, lambda: a > b,
                        lambda: a >= b):
                with self.assertRaises(MixedScales):
                    act()
            self.assertIs(a == b, False)
            self.assertIs(a != b, True)

    def test_beside_a_value_that_is_no_grade(self):
        grade = Grade(MostTally(), 1)
        for other in (1, "1", None, (1,), [grade], MostTally(), True):
            self.assertIs(grade == other, False)
            self.assertIs(other == grade, False)
            self.assertIs(grade != other, True)


class CountTest(unittest.TestCase):
    def test_counts_on_the_left(self):
        for scale in some_scales():
            for grade in grades_of(scale):
                for count in (0, 1, 2, 3, 11):
                    place = scale.product_at(plain_times(scale, count), grade.place)
                    self.assertEqual((count * grade).place, place)
        self.assertEqual((5 * Grade(MostTally(), 3)).place, 15)
        for count in LONG:
            self.assertEqual((count * Grade(CutScale(0, period=7), 3)).place, 3 * count % 7)
            self.assertEqual((count * Grade(MostTally(), 10 ** 3999)).place, count * 10 ** 3999)
            pair = count * Grade(PairScale(LeastTally(), CutScale(0, period=5)), (2, 2))
            self.assertEqual(pair.place, (2 * count, 2 * count % 5))

    def test_a_count_stands_on_the_left_alone(self):
        with self.assertRaises(TypeError):
            Grade(MostTally(), 1) * 2

    def test_the_count_is_the_left_factor(self):
        names = ["o", "i", "t"]
        within = [[a == b for b in names] for a in names]
        sums = [["o", "i", "t"], ["i", "t", "t"], ["t", "t", "t"]]
        products = [["o", "o", "o"], ["o", "i", "t"], ["o", "o", "t"]]
        scale = TableScale(names, within, sums, products, zero="o", one="i")
        self.assertEqual((2 * Grade(scale, 1)).name, "o")

    def test_powers(self):
        for scale in some_scales():
            for grade in grades_of(scale):
                for count in range(12):
                    place = plain_power(scale, grade.place, count)
                    self.assertEqual(grade.power(count).place, place)
                    self.assertEqual((grade ** count).place, place)

    def test_powers_are_multiplied_from_the_left_beginning_with_one(self):
        names = ["a", "b", "c"]
        products = [["a", "c", "a"], ["b", "a", "a"], ["c", "b", "c"]]
        within = [[a == b for b in names] for a in names]
        scale = TableScale(names, within, products, products, zero="b", one="a")
        grade = Grade(scale, 1)
        self.assertEqual([(grade ** count).name for count in range(6)], ["a", "c", "b", "a", "c", "b"])

    def test_powers_of_long_exponents(self):
        for count in LONG:
            self.assertEqual((Grade(CutScale(0, period=61), 3) ** count).place, pow(3, count, 61))
            self.assertEqual((Grade(CutScale(5, period=2), 3) ** count).name, "5")
            self.assertEqual(Grade(PairScale(CutScale(0, period=5), CutScale(0, period=7)), (2, 3)).power(count).place,
                             (pow(2, count, 5), pow(3, count, 7)))
            self.assertEqual(Grade(TurnedScale(RelationScale(2)), 6).power(count).place, 6 if count % 2 else 9)
            self.assertEqual((Grade(MostTally(), 1) ** count).place, 1)
            self.assertEqual((Grade(MostTally(), 0) ** count).place, 0)

    def test_powers_of_tallies(self):
        for scale in (ExactTally(), MostTally(), LeastTally()):
            for count in range(61):
                for place in (0, 1, 2, 7):
                    self.assertEqual((Grade(scale, place) ** count).place, place ** count)
        scale = PairScale(MostTally(), CutScale(0, period=11))
        for count in (0, 1, 59, 60):
            self.assertEqual((Grade(scale, (3, 3)) ** count).place, (3 ** count, 3 ** count % 11))
        self.assertTrue((Grade(MostTally(), 10 ** 60) ** 60).name == "1" + "0" * 3600)

    def test_negative_counts(self):
        pair = PairScale(MostTally(), LevelScale(2))
        for grade in (Grade(MostTally(), 2), Grade(CutScale(2), 1), Grade(pair, (1, 1))):
            for count in (-1, -10 ** 62):
                for act in (lambda: count * grade, lambda: grade ** count, lambda: grade.power(count)):
                    with self.assertRaises(NegativeCount) as caught:
                        act()
                    self.assertEqual(caught.exception.count, count)


class RoomTest(unittest.TestCase):
    def check_room(self, scale, place, upto, counts):
        grade = Grade(scale, place)
        fitting = [k for k in range(upto) if scale.within_at(plain_times(scale, k), place)]
        for count in counts:
            where = (scale.label, place, count)
            self.assertIs(grade.fits(count), count in fitting, where)
            self.assertIs(grade.room(count), any(k > count for k in fitting), where)
        self.assertIs(grade.idle, not any(k > 0 for k in fitting))

    def test_scales_with_finitely_many_grades(self):
        for scale in some_scales():
            for place in scale.places():
                self.check_room(scale, place, 60, range(20))

    def test_pairs_of_cut_scales(self):
        scale = PairScale(CutScale(1, period=4), CutScale(2, period=4))
        for place in scale.places():
            self.check_room(scale, place, 60, range(25))
        self.assertTrue(Grade(PairScale(CutScale(0, period=2), CutScale(0, period=2)), (0, 1)).idle)

    def test_tallies(self):
        for scale in (ExactTally(), MostTally(), LeastTally()):
            for place in range(6):
                self.check_room(scale, place, 200, range(9))

    def test_pairs_of_a_tally_and_a_small_scale(self):
        smalls = [CutScale(2, period=3), CutScale(1, order="down"), LevelScale(2), SpanScale(2)]
        smalls += [scale for scale in wild_tables() if scale.size == 4]
        for tally in (ExactTally(), MostTally(), LeastTally()):
            for small in smalls:
                for number in range(9):
                    for place in small.places():
                        self.check_room(PairScale(tally, small), (number, place), 60, range(10))
                        self.check_room(PairScale(small, tally), (place, number), 60, range(10))

    def test_pairs_of_tallies(self):
        for scale in (PairScale(MostTally(), LeastTally()), PairScale(ExactTally(), MostTally()),
                      PairScale(LeastTally(), ExactTally()), PairScale(MostTally(), MostTally()),
                      PairScale(LeastTally(), LeastTally()), PairScale(ExactTally(), ExactTally())):
            for first in range(5):
                for second in range(5):
                    self.check_room(scale, (first, second), 60, range(8))

    def test_cut_scales_around_tallies(self):
        left = PairScale(MostTally(), CutScale(1, period=4))
        right = PairScale(CutScale(2, period=6), LeastTally())
        scale = PairScale(left, right)
        for residue in range(5):
            for other in range(8):
                self.check_room(scale, ((40, residue), (other, 3)), 60, range(45))

    def test_long_counts(self):
        big = 10 ** 3999
        scale = PairScale(MostTally(), CutScale(0, period=7))
        last = big - (big - 3) % 7
        grade = Grade(scale, (big, 3))
        self.assertEqual([grade.fits(last), grade.fits(last + 7), grade.fits(last - 1)], [True, False, False])
        self.assertEqual([grade.room(last - 1), grade.room(last), grade.room(0)], [True, False, True])
        chained = scale
        place = (big, 3)
        for period, residue in ((64, 5), (61, 6), (59, 7), (55, 8)):
            chained = PairScale(chained, CutScale(0, period=period))
            place = (place, residue)
        self.assertTrue(Grade(chained, place).room(0))
        self.assertFalse(Grade(PairScale(chained, CutScale(0, period=2)), (place, 0)).room(0))
        for count in LONG:
            self.assertTrue(Grade(LeastTally(), 5).fits(count))
            self.assertTrue(Grade(LeastTally(), big).room(count))
            self.assertFalse(Grade(MostTally(), count).room(count))
            self.assertTrue(Grade(MostTally(), count).room(count - 1))
            self.assertFalse(Grade(ExactTally(), count).fits(count - 1))
            self.assertTrue(Grade(CutScale(0, period=9), count % 9).fits(count))
            self.assertFalse(Grade(CutScale(9, period=9), 8).room(count))
            self.assertTrue(Grade(CutScale(9, period=9), 9).room(count))

    def test_a_count_below_zero(self):
        for grade in (Grade(ExactTally(), 0), Grade(MostTally(), 0), Grade(CutScale(1), 0)):
            self.assertFalse(grade.fits(-1))
            self.assertTrue(grade.room(-1))
            self.assertTrue(grade.room(-7))
            self.assertFalse(grade.room(0))

    def test_idle(self):
        for scale, name, idle in ((ExactTally(), "0", True), (ExactTally(), "1", False), (MostTally(), "0", True),
                                  (LeastTally(), "0", False), (LeastTally(), "9", False), (CutScale(0), "many", False),
                                  (CutScale(0, period=2), "0", False), (CutScale(2), "0", True),
                                  (CutScale(2, order="down"), "0", False), (LevelScale(2), "0", True)):
            self.assertIs(Grade.named(scale, name).idle, idle, (scale.label, name))


if __name__ == "__main__":
    unittest.main()
