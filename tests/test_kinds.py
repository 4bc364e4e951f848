import itertools
import unittest

from made_terms import Maker, checking_scales
from plain_check import INT, plain_fits
from usescale.families import CutScale, LevelScale, PairScale, TurnedScale
from usescale.kinds import fits
from usescale.tallies import ExactTally, LeastTally, MostTally

UP = CutScale(2, order="up")


class FitsTest(unittest.TestCase):
    def test_each_form_fits_itself(self):
        for kind in (INT, ("fun", "1", INT, INT), ("pair", INT, INT), ("either", INT, INT), ("box", "many", INT)):
            self.assertIs(fits(UP, kind, kind), True)

    def test_forms_that_differ(self):
        kinds = [INT, ("fun", "1", INT, INT), ("pair", INT, INT), ("either", INT, INT), ("box", "1", INT)]
        for found, wanted in itertools.permutations(kinds, 2):
            self.assertIs(fits(UP, found, wanted), False)
            for outer in (lambda kind: ("pair", INT, kind), lambda kind: ("fun", "0", kind, INT),
                          lambda kind: ("box", "0", kind)):
                self.assertIs(fits(UP, outer(found), outer(wanted)), False)

    def test_the_grade_of_a_function_lies_within_the_wanted_one(self):
        for found, wanted in itertools.product(("0", "1", "many"), repeat=2):
            expected = ("0", "1", "many").index(found) <= ("0", "1", "many").index(wanted)
            self.assertIs(fits(CutScale(2, order="up"), ("fun", found, INT, INT), ("fun", wanted, INT, INT)), expected)
            self.assertIs(fits(CutScale(2, order="up"), ("box", wanted, INT), ("box", found, INT)), expected)

    def test_grades_that_nothing_orders(self):
        self.assertIs(fits(ExactTally(), ("fun", "1", INT, INT), ("fun", "2", INT, INT)), False)
        self.assertIs(fits(ExactTally(), ("box", "2", INT), ("box", "1", INT)), False)
        self.assertIs(fits(MostTally(), ("box", "2", INT), ("box", "1", INT)), True)
        self.assertIs(fits(LeastTally(), ("box", "2", INT), ("box", "1", INT)), False)
        self.assertIs(fits(LeastTally(), ("box", "1", INT), ("box", "2", INT)), True)

    def test_sources_fit_the_other_way_round(self):
        small, large = ("box", "1", INT), ("box", "many", INT)
        self.assertEqual((fits(UP, large, small), fits(UP, small, large)), (True, False))
        for found, wanted, expected in (
                (("fun", "1", small, INT), ("fun", "1", large, INT), True),
                (("fun", "1", large, INT), ("fun", "1", small, INT), False),
                (("fun", "1", INT, large), ("fun", "1", INT, small), True),
                (("fun", "1", INT, small), ("fun", "1", INT, large), False),
                (("fun", "1", ("fun", "1", small, INT), INT), ("fun", "1", ("fun", "1", large, INT), INT), False),
                (("fun", "1", ("fun", "1", large, INT), INT), ("fun", "1", ("fun", "1", small, INT), INT), True),
                (("fun", "1", ("fun", "many", INT, INT), INT), ("fun", "1", ("fun", "1", INT, INT), INT), True)):
            self.assertIs(fits(UP, found, wanted), expected, (found, wanted))

    def test_halves_and_contents(self):
        small, large = ("box", "1", INT), ("box", "many", INT)
        for word in ("pair", "either"):
            for first, second in itertools.product((small, large), repeat=2):
                for third, fourth in itertools.product((small, large), repeat=2):
                    expected = fits(UP, first, third) and fits(UP, second, fourth)
                    self.assertIs(fits(UP, (word, first, second), (word, third, fourth)), expected)
        self.assertIs(fits(UP, ("box", "1", large), ("box", "1", small)), True)
        self.assertIs(fits(UP, ("box", "1", small), ("box", "1", large)), False)

    def test_deep_kinds(self):
        found = wanted = INT
        for _ in range(80):
            found, wanted = ("box", "many", found), ("box", "1", wanted)
        self.assertEqual((fits(UP, found, wanted), fits(UP, wanted, found)), (True, False))
        found, wanted = ("box", "many", INT), ("box", "1", INT)
        for _ in range(61):
            found, wanted = ("fun", "1", found, INT), ("fun", "1", wanted, INT)
        self.assertEqual((fits(UP, found, wanted), fits(UP, wanted, found)), (False, True))

    def test_random_kinds(self):
        fitting = 0
        for scale in checking_scales() + [TurnedScale(LevelScale(3)), PairScale(UP, TurnedScale(UP))]:
            maker = Maker(scale, 1)
            kinds = [maker.kind(2) for _ in range(30)]
            for found, wanted in itertools.product(kinds, repeat=2):
                expected = plain_fits(scale, found, wanted)
                fitting += expected
                self.assertIs(fits(scale, found, wanted), expected, (scale.label, found, wanted))
        self.assertGreater(fitting, 500)


if __name__ == "__main__":
    unittest.main()
