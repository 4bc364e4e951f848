import unittest

from helpers import as_table, family_scales, made_scales, plain_times, plain_turns, random_table, wild_tables
from usescale.families import CutScale, LevelScale, PairScale, SpanScale, SubsetScale, TurnedScale
from usescale.scales import TableScale

LONG = (10 ** 59, 10 ** 60 - 1, 10 ** 60, 10 ** 61 + 7, 10 ** 62 - 1)


def counter(length, back):
    """A table in which each sum is the place behind the left one, and behind the last place the place back."""
    names = [f"k{place}" for place in range(length)]
    following = [names[place + 1] if place + 1 < length else names[back] for place in range(length)]
    sums = [[following[a] for _ in names] for a in range(length)]
    within = [[a == b for b in range(length)] for a in range(length)]
    return TableScale(names, within, sums, sums, zero=names[-1], one=names[0])


class TimesTest(unittest.TestCase):
    def test_small_counts(self):
        for scale in family_scales() + made_scales() + wild_tables():
            for count in range(40):
                self.assertEqual(scale.times_at(count), plain_times(scale, count), (scale.label, count))

    def test_long_counts(self):
        for scale in (CutScale(0, period=7), CutScale(5, period=12), CutScale(0, period=64), CutScale(1, period=63)):
            start, period = int(scale.label.split()[1]), int(scale.label.split()[2])
            for count in LONG:
                self.assertEqual(scale.times_at(count), start + (count - start) % period)
        for scale in (CutScale(2), CutScale(63, order="up"), CutScale(0), LevelScale(4), SubsetScale(2), SpanScale(3)):
            for count in LONG:
                self.assertEqual(scale.times_at(count), plain_times(scale, 100))

    def test_long_counts_of_tables(self):
        for length in (1, 2, 5, 16):
            for back in range(length):
                scale, period = counter(length, back), length - back
                self.assertEqual(scale.times_at(0), length - 1)
                for count in LONG:
                    self.assertEqual(scale.times_at(count), back + (count - 1 - back) % period)

    def test_ones_are_added_from_the_left(self):
        names = ["o", "i", "l", "r"]
        sums = [["o"] * 4, ["o", "l", "i", "o"], ["o", "r", "o", "o"], ["o"] * 4]
        within = [[a == b for b in range(4)] for a in range(4)]
        scale = TableScale(names, within, sums, sums, zero="o", one="i")
        self.assertEqual([scale.times_at(count) for count in range(5)], [0, 1, 2, 3, 0])

    def test_one_of_count_one_is_not_added_to_zero(self):
        scale = TableScale(["a", "b"], [[True] * 2] * 2, [["a", "a"], ["b", "b"]], [["a", "a"]] * 2, zero="a", one="b")
        self.assertEqual([scale.times_at(count) for count in range(3)], [0, 1, 1])

    def test_turned_and_table_copies(self):
        for scale in family_scales():
            if scale.size > 16:
                continue
            for count in (0, 1, 5, 10 ** 61):
                self.assertEqual(TurnedScale(scale).times_at(count), scale.times_at(count))
                self.assertEqual(as_table(scale).times_at(count), scale.times_at(count))


class TurnsTest(unittest.TestCase):
    def triples(self, scale):
        places = scale.places()
        if len(places) > 6:
            places = places[::len(places) // 5]
        return [(a, b, c) for a in places for b in places for c in places]

    def test_in_the_words_of_the_document(self):
        scales = family_scales() + wild_tables() + [random_table(3, 16)]
        scales += [TurnedScale(scale) for scale in family_scales() + wild_tables()]
        for scale in scales:
            for triple in self.triples(scale):
                self.assertEqual(scale.turns_at(*triple), plain_turns(scale, *triple), (scale.label, triple))

    def test_of_a_regular_scale_it_is_the_least_such_grade(self):
        for scale in family_scales() + made_scales():
            for start, extra, factor in self.triples(scale):
                found = scale.turns_at(start, extra, factor)
                enough = [t for t in scale.places() if scale.within_at(start, t) and scale.within_at(
                    scale.sum_at(extra, scale.product_at(factor, t)), t)]
                if found is None:
                    self.assertEqual(enough, [], scale.label)
                else:
                    self.assertIn(found, enough)
                    self.assertTrue(all(scale.within_at(found, t) for t in enough))

    def test_a_round_for_each_grade_and_one_more(self):
        scale = CutScale(63, order="up")
        self.assertEqual(scale.turns_at(0, 1, 1), 63)
        self.assertEqual(scale.turns_at(63, 1, 1), 63)
        self.assertEqual(scale.turns_at(5, 0, 1), 5)

    def test_rounds_that_never_end(self):
        names = ["a", "b", "c"]
        within = [[True, True, False], [True, True, False], [False, True, True]]
        sums = [["c", "a", "a"], ["a"] * 3, ["a"] * 3]
        products = [["a", "b", "a"], ["a"] * 3, ["a"] * 3]
        scale = TableScale(names, within, sums, products, zero="a", one="a")
        self.assertEqual([scale.bound_at(0, 2), scale.bound_at(1, 0)], [1, 0])
        self.assertIsNone(scale.turns_at(0, 0, 0))
        self.assertIsNone(PairScale(scale, LevelScale(1)).turns_at((0, 0), (0, 0), (0, 0)))

    def test_no_bound(self):
        scale = CutScale(2)
        self.assertIsNone(scale.turns_at(1, 0, 0))
        self.assertIsNone(scale.turns_at(0, 1, 1))
        self.assertEqual(scale.turns_at(1, 0, 1), 1)
        self.assertEqual(scale.turns_at(2, 1, 1), 2)

    def test_the_grade_of_the_turns_is_the_right_factor(self):
        for scale in wild_tables():
            for a in scale.places():
                for b in scale.places():
                    turns = scale.turns_at(scale.zero_at, a, b)
                    self.assertEqual(turns, plain_turns(scale, scale.zero_at, a, b))

    def test_pairs_are_worked_out_half_by_half(self):
        wild = [scale for scale in wild_tables() if scale.size <= 3]
        for left, right in zip(wild, wild[2:] + family_scales()[:3]):
            scale = PairScale(left, right)
            for start in scale.places():
                for extra in scale.places():
                    factor = scale.places()[(start[0] + extra[1]) % scale.size]
                    halves = (plain_turns(left, start[0], extra[0], factor[0]),
                              plain_turns(right, start[1], extra[1], factor[1]))
                    expected = None if None in halves else halves
                    self.assertEqual(scale.turns_at(start, extra, factor), expected)

    def test_a_turned_pair_is_worked_out_as_a_whole(self):
        wild = [scale for scale in wild_tables() if scale.size <= 3]
        for left, right in zip(wild, wild[1:]):
            scale = TurnedScale(PairScale(left, right))
            for triple in self.triples(scale):
                self.assertEqual(scale.turns_at(*triple), plain_turns(scale, *triple))


if __name__ == "__main__":
    unittest.main()
