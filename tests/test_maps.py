import itertools
import unittest

from helpers import as_table, family_scales, made_scales, names_of, random_table
from usescale.errors import BadMap, EndlessScale, MixedScales, TooMany, UnknownGrade
from usescale.families import (CutScale, LevelScale, PairScale, RelationScale, SpanScale, SubsetScale,
                               TurnedScale)
from usescale.grades import Grade
from usescale.labels import read_scale
from usescale.maps import CountMap, HalfMap, ScaleMap, regular_maps
from usescale.tallies import ExactTally, LeastTally, MostTally

LEVELS = LevelScale(3)
MANY = CutScale(2, order="up")


def small_scales():
    """Scales with at most 6 grades."""
    return [scale for scale in family_scales() + made_scales() if scale.size <= 6]


def plain_fault(source, target, images):
    """The first break in the words of point 41; images gives the place of the image by the name of the grade."""
    def image(place):
        return images[source.name_at(place)]

    def of_pair(a, b):
        return (source.name_at(a), source.name_at(b))

    pairs = list(itertools.product(source.places(), repeat=2))
    if image(source.zero_at) != target.zero_at:
        return ("zero", ())
    if image(source.one_at) != target.one_at:
        return ("one", ())
    for a, b in pairs:
        if image(source.sum_at(a, b)) != target.sum_at(image(a), image(b)):
            return ("sum", of_pair(a, b))
    for a, b in pairs:
        if image(source.product_at(a, b)) != target.product_at(image(a), image(b)):
            return ("product", of_pair(a, b))
    for a, b in pairs:
        if source.within_at(a, b) and not target.within_at(image(a), image(b)):
            return ("within", of_pair(a, b))
    return None


def plain_regular(source, target):
    """The lists of images of all regular maps, in order."""
    found = []
    for images in itertools.product(target.places(), repeat=source.size):
        told = {source.name_at(place): image for place, image in zip(source.places(), images)}
        if plain_fault(source, target, told) is None:
            found.append([target.name_at(image) for image in images])
    return found


def images_of(m):
    return [m.image(name) for name in names_of(m.source)]


class ScaleMapTest(unittest.TestCase):
    def test_images(self):
        m = ScaleMap(LEVELS, MANY, ["0", "many", "1"])
        self.assertEqual((m.source.label, m.target.label), (LEVELS.label, MANY.label))
        self.assertEqual(images_of(m), ["0", "many", "1"])
        for name, image in (("0", "0"), ("1", "many"), ("2", "1")):
            found = m(Grade.named(LevelScale(3), name))
            self.assertEqual(found, Grade.named(CutScale(2, order="up"), image))
            self.assertEqual(found.name, image)
        for name in ("3", "many", "", "?", "00"):
            with self.assertRaises(UnknownGrade) as caught:
                m.image(name)
            self.assertEqual(caught.exception.name, name)
        for scale in (LevelScale(4), MANY, MostTally(), TurnedScale(LEVELS)):
            with self.assertRaises(MixedScales):
                m(Grade.zero(scale))

    def test_pairs_and_tallies(self):
        source = PairScale(LevelScale(2), CutScale(1))
        self.assertEqual(names_of(source), ["<0/0>", "<0/many>", "<1/0>", "<1/many>"])
        m = ScaleMap(source, MostTally(), ["0", "7", "5", "1"])
        self.assertEqual(images_of(m), ["0", "7", "5", "1"])
        self.assertEqual(m(Grade.one(source)), Grade.named(MostTally(), "1"))
        m = ScaleMap(LevelScale(2), PairScale(ExactTally(), LEVELS), ["<3/0>", "<10/2>"])
        self.assertEqual(m(Grade.named(LevelScale(2), "1")).place, (10, 2))

    def test_scales_that_are_made_anew(self):
        for scale in family_scales() + made_scales():
            again = read_scale(scale.label)
            m = ScaleMap(scale, again, names_of(scale))
            self.assertEqual([m(Grade(again, place)).name for place in again.places()], names_of(scale))

    def test_errors_in_their_order(self):
        endless = PairScale(LEVELS, ExactTally())
        for source, images, error in (
                (ExactTally(), ["zz"], EndlessScale), (MostTally(), [], EndlessScale), (endless, ["0"], EndlessScale),
                (LEVELS, ["zz", "yy"], BadMap), (LEVELS, [], BadMap), (LEVELS, ["0", "1", "0", "zz"], BadMap)):
            with self.assertRaises(error):
                ScaleMap(source, MANY, images)
        for images, name in ((["0", "zz", "yy"], "zz"), (["?", "zz", "1"], "?"), (["0", "1", "2"], "2")):
            with self.assertRaises(UnknownGrade) as caught:
                ScaleMap(LEVELS, MANY, images)
            self.assertEqual(caught.exception.name, name)

    def test_the_list_can_be_changed_afterwards(self):
        images = ["0", "1", "many"]
        m = ScaleMap(LEVELS, MANY, images)
        images[1] = "0"
        images.clear()
        self.assertEqual(images_of(m), ["0", "1", "many"])


class FaultTest(unittest.TestCase):
    def fault(self, source, target, *images):
        return ScaleMap(source, target, list(images)).fault()

    def test_each_word(self):
        self.assertIsNone(self.fault(LEVELS, LEVELS, "0", "1", "2"))
        self.assertIsNone(self.fault(LEVELS, LevelScale(2), "0", "1", "1"))
        self.assertEqual(self.fault(LEVELS, LEVELS, "1", "1", "1"), ("zero", ()))
        self.assertEqual(self.fault(LEVELS, LEVELS, "0", "1", "1"), ("one", ()))
        self.assertEqual(self.fault(LevelScale(4), LevelScale(4), "0", "2", "1", "3"), ("sum", ("1", "2")))
        self.assertEqual(self.fault(CutScale(3), CutScale(0, period=2), "0", "1", "0", "1"), ("sum", ("1", "many")))
        self.assertEqual(self.fault(SubsetScale(1), CutScale(0, period=2), "0", "1"), ("sum", ("1", "1")))
        self.assertEqual(self.fault(LevelScale(2), LEVELS, "0", "2"), None)
        plain = CutScale(2)
        self.assertEqual(self.fault(MANY, plain, "0", "1", "many"), ("within", ("0", "1")))
        self.assertEqual(self.fault(TurnedScale(MANY), MANY, "0", "1", "many"), ("within", ("1", "0")))

    def test_a_product_that_is_not_kept(self):
        # The sum is that of integers up to a highest one, and only products are worked out otherwise.
        names = ["g0", "g1", "g2", "g3"]
        source = as_table(CutScale(3))
        products = [[names[min(a * b, 3)] for b in range(4)] for a in range(4)]
        products[2][2] = "g2"
        target = as_table(CutScale(3), products=products)
        self.assertEqual(self.fault(source, target, *names), ("product", ("g2", "g2")))
        products[2][2], products[3][1], products[2][3] = "g3", "g1", "g0"
        target = as_table(CutScale(3), products=products)
        self.assertEqual(self.fault(source, target, *names), ("product", ("g2", "g3")))

    def test_the_first_word_that_fails(self):
        self.assertEqual(self.fault(TurnedScale(MANY), MANY, "1", "0", "many"), ("zero", ()))
        self.assertEqual(self.fault(TurnedScale(MANY), MANY, "0", "many", "1"), ("one", ()))
        self.assertEqual(self.fault(TurnedScale(MANY), MANY, "0", "1", "1"), ("sum", ("1", "1")))

    def test_targets_with_endlessly_many_grades(self):
        for target in (ExactTally(), MostTally(), LeastTally()):
            self.assertEqual(self.fault(LevelScale(1), target, "0"), ("one", ()))
            self.assertEqual(self.fault(LevelScale(2), target, "0", "1"), ("sum", ("1", "1")))
        self.assertEqual(self.fault(LevelScale(1), PairScale(MostTally(), LEVELS), "<1/0>"), ("zero", ()))

    def test_random_maps(self):
        words = {}
        scales = small_scales() + [random_table(seed, 2 + seed % 3) for seed in range(12)]
        for number, (source, target) in enumerate(itertools.product(scales, repeat=2)):
            places = target.places()
            for turn in range(4):
                images = [places[(at * (turn + 1) + number // 7 * turn) % len(places)] for at in range(source.size)]
                if turn == 3:
                    images[source.places().index(source.zero_at)] = target.zero_at
                    images[source.places().index(source.one_at)] = target.one_at
                m = ScaleMap(source, target, [target.name_at(image) for image in images])
                told = dict(zip(names_of(source), images))
                wanted = plain_fault(source, target, told)
                self.assertEqual(m.fault(), wanted, (source.label, target.label, images))
                word = wanted and wanted[0]
                words[word] = words.get(word, 0) + 1
        self.assertEqual(len(words), 6)
        self.assertGreater(min(words.values()), 10)


class JoinedTest(unittest.TestCase):
    def test_the_second_one_is_applied_first(self):
        first = ScaleMap(LEVELS, MANY, ["0", "1", "many"])
        second = ScaleMap(MANY, LevelScale(4), ["1", "3", "2"])
        joined = second * first
        self.assertIsInstance(joined, ScaleMap)
        self.assertEqual((joined.source.label, joined.target.label), (LEVELS.label, "(levels 4)"))
        self.assertEqual(images_of(joined), ["1", "3", "2"])
        turned = ScaleMap(LEVELS, LEVELS, ["1", "2", "0"])
        self.assertEqual(images_of(turned * turned), ["2", "0", "1"])
        self.assertEqual(images_of(first * turned), ["1", "many", "0"])
        self.assertEqual((images_of(first), images_of(second)), (["0", "1", "many"], ["1", "3", "2"]))
        for left, right in ((first, second), (first, first), (ScaleMap.same(TurnedScale(LEVELS)), turned)):
            with self.assertRaises(MixedScales):
                left * right
        for other in (3, None, CountMap(LEVELS), Grade.one(LEVELS)):
            with self.assertRaises(TypeError):
                first * other

    def test_same(self):
        for scale in family_scales() + made_scales():
            same = ScaleMap.same(scale)
            self.assertEqual((images_of(same), same.fault()), (names_of(scale), None))
            self.assertEqual((same.source.label, same.target.label), (scale.label, scale.label))
            self.assertTrue(same * same == same == ScaleMap.same(read_scale(scale.label)))
        for scale in (ExactTally(), LeastTally(), PairScale(LEVELS, MostTally())):
            with self.assertRaises(EndlessScale):
                ScaleMap.same(scale)
        m = ScaleMap(LEVELS, MANY, ["0", "1", "many"])
        self.assertTrue(m * ScaleMap.same(LEVELS) == m == ScaleMap.same(MANY) * m)

    def test_equal_maps(self):
        m = ScaleMap(LEVELS, MANY, ["0", "1", "many"])
        self.assertTrue(m == ScaleMap(LevelScale(3), CutScale(2, order="up"), ["0", "1", "many"]))
        for other in (ScaleMap(LEVELS, MANY, ["0", "1", "1"]), ScaleMap(LEVELS, CutScale(2), ["0", "1", "many"]),
                      ScaleMap(TurnedScale(LEVELS), MANY, ["0", "1", "many"]), CountMap(MANY), 3, None, "m",
                      ["0", "1", "many"]):
            self.assertFalse(m == other)
            self.assertFalse(other == m)
            self.assertTrue(m != other)

    def test_regular_maps_joined_are_regular(self):
        scales = [scale for scale in small_scales() if scale.size <= 3]
        joined = 0
        for a, b, c in itertools.product(scales, repeat=3):
            for first in regular_maps(a, b):
                for second in regular_maps(b, c):
                    self.assertIsNone((second * first).fault())
                    joined += 1
        self.assertGreater(joined, 300)


class RegularMapsTest(unittest.TestCase):
    def found(self, source, target):
        maps = regular_maps(source, target)
        for m in maps:
            self.assertIsInstance(m, ScaleMap)
            self.assertEqual((m.source.label, m.target.label), (source.label, target.label))
        return [images_of(m) for m in maps]

    def test_levels(self):
        self.assertEqual(self.found(LEVELS, LEVELS), [["0", "0", "2"], ["0", "1", "2"], ["0", "2", "2"]])
        self.assertEqual(self.found(LevelScale(2), LevelScale(6)), [["0", "5"]])
        for many in range(2, 7):
            for target in range(2, 7):
                found = self.found(LevelScale(many), LevelScale(target))
                wanted = [["0", *row, str(target - 1)] for row in itertools.combinations_with_replacement(
                    [str(number) for number in range(target)], many - 2)]
                self.assertEqual(found, wanted)
        self.assertEqual(len(self.found(LevelScale(6), LevelScale(6))), 126)

    def test_one_grade(self):
        for one in (LevelScale(1), CutScale(0), SpanScale(0), PairScale(LevelScale(1), LevelScale(1))):
            name = names_of(one)[0]
            for scale in small_scales():
                self.assertEqual(self.found(scale, one), [[name] * scale.size])
                # Zero and one of the single grade are one, so a scale with more takes in no such map.
                wanted = [] if scale.zero_at != scale.one_at else [[scale.name_at(scale.zero_at)]]
                self.assertEqual(self.found(one, scale), wanted)

    def test_too_many_grades(self):
        for source, target, size in (
                (LevelScale(7), LEVELS, 7), (LEVELS, LevelScale(8), 8), (SubsetScale(3), LevelScale(7), 8),
                (ExactTally(), LevelScale(7), None), (LevelScale(7), ExactTally(), 7), (LEVELS, MostTally(), None),
                (PairScale(LevelScale(2), LeastTally()), LEVELS, None), (RelationScale(2), LEVELS, 16)):
            with self.assertRaises(TooMany) as caught:
                regular_maps(source, target)
            self.assertEqual(caught.exception.size, size)
        self.assertEqual(len(regular_maps(LevelScale(6), PairScale(LevelScale(3), LevelScale(2)))), 75)

    def test_ascending_and_complete(self):
        scales = [scale for scale in small_scales() if scale.size <= 4]
        scales += [random_table(seed, 2 + seed % 3) for seed in range(8)]
        found = 0
        for source, target in itertools.product(scales, repeat=2):
            maps = self.found(source, target)
            self.assertEqual(maps, plain_regular(source, target), (source.label, target.label))
            found += len(maps)
        self.assertGreater(found, 150)

    def test_six_grades(self):
        pair = PairScale(LevelScale(2), LevelScale(3))
        self.assertEqual(self.found(pair, pair), plain_regular(pair, pair))
        for source, target in ((SpanScale(2), LevelScale(6)), (LevelScale(6), SpanScale(2)), (pair, SpanScale(2)),
                               (CutScale(5), CutScale(2, period=4)), (CutScale(2, period=4), CutScale(2, period=2))):
            self.assertEqual(self.found(source, target), plain_regular(source, target))

    def test_the_list_belongs_to_the_caller(self):
        regular_maps(LEVELS, LEVELS).clear()
        self.assertEqual(len(regular_maps(LEVELS, LEVELS)), 3)


class CountMapTest(unittest.TestCase):
    def test_every_family(self):
        for scale in family_scales() + made_scales() + [random_table(seed, 1 + seed % 6) for seed in range(20)]:
            m = CountMap(scale)
            self.assertEqual((m.source.label, m.target.label), ("(tally same)", scale.label))
            for count in list(range(12)) + [10 ** 30 + 7, 10 ** 62 - 1]:
                wanted = scale.name_at(scale.times_at(count))
                self.assertEqual(m.image(str(count)), wanted)
                self.assertEqual(m(Grade(ExactTally(), count)), Grade.named(scale, wanted))

    def test_tallies_and_pairs(self):
        for scale in (ExactTally(), MostTally(), LeastTally()):
            self.assertEqual(CountMap(scale).image("12"), "12")
        self.assertEqual(CountMap(PairScale(MostTally(), MANY)).image("5"), "<5/many>")
        self.assertEqual(CountMap(CutScale(1, period=3)).image("1000"), "1")
        self.assertEqual(CountMap(SpanScale(2)).image("1"), "1to1")
        big = "7" * 3999
        self.assertEqual(CountMap(MostTally()).image(big), big)

    def test_unknown_grades_and_other_scales(self):
        m = CountMap(LEVELS)
        for name in ("", "many", "01", "-1", "?", "1.0"):
            with self.assertRaises(UnknownGrade) as caught:
                m.image(name)
            self.assertEqual(caught.exception.name, name)
        for scale in (MostTally(), LEVELS, PairScale(ExactTally(), ExactTally())):
            with self.assertRaises(MixedScales):
                m(Grade.zero(scale))


class HalfMapTest(unittest.TestCase):
    def test_both_sides(self):
        for left, right in ((LEVELS, MANY), (MostTally(), SubsetScale(2)), (PairScale(LEVELS, ExactTally()), MANY)):
            scale = PairScale(left, right)
            for side, half, at in (("left", left, 0), ("right", right, 1)):
                m = HalfMap(scale, side)
                self.assertEqual((m.source.label, m.target.label), (scale.label, half.label))
                for place in ((scale.zero_at), (scale.one_at), scale.times_at(5)):
                    name = scale.name_at(place)
                    self.assertEqual(m.image(name), half.name_at(place[at]))
                    self.assertEqual(m(Grade(read_scale(scale.label), place)), Grade(half, place[at]))
        scale = PairScale(LEVELS, MANY)
        self.assertEqual([HalfMap(scale, "left").image(name) for name in names_of(scale)],
                         ["0", "0", "0", "1", "1", "1", "2", "2", "2"])
        self.assertEqual([HalfMap(scale, "right").image(name) for name in names_of(scale)], ["0", "1", "many"] * 3)

    def test_errors(self):
        pair = PairScale(LEVELS, MANY)
        for source, side in ((pair, "middle"), (pair, ""), (pair, "Left"), (LEVELS, "left"), (ExactTally(), "right"),
                             (TurnedScale(pair), "left"), (SpanScale(2), "right")):
            with self.assertRaises(BadMap):
                HalfMap(source, side)
        m = HalfMap(pair, "left")
        for name in ("0", "<0/0", "<3/0>", "<0/2>", "?", ""):
            with self.assertRaises(UnknownGrade) as caught:
                m.image(name)
            self.assertEqual(caught.exception.name, name)
        for scale in (LEVELS, MANY, PairScale(MANY, LEVELS), TurnedScale(pair)):
            with self.assertRaises(MixedScales):
                m(Grade.zero(scale))


if __name__ == "__main__":
    unittest.main()
