import itertools
import random
import unittest

from helpers import as_table, made_scales
from usescale.errors import MixedScales, NoBound
from usescale.families import CutScale, LevelScale, PairScale, RelationScale, SpanScale, SubsetScale, TurnedScale
from usescale.grades import Grade
from usescale.tallies import ExactTally, LeastTally, MostTally
from usescale.usages import Usage

NAMES = ("a", "b", "c", "x10", "x9")


def scales():
    return made_scales() + [CutScale(2, period=3), CutScale(0), CutScale(0, period=2), CutScale(1, order="up"),
                            CutScale(3, order="down"), LevelScale(3), SubsetScale(2), SpanScale(2), RelationScale(2),
                            as_table(RelationScale(2))]


def made(scale, **grades):
    usage = Usage(scale)
    for name, grade in grades.items():
        usage[name] = Grade.named(scale, grade)
    return usage


def told(usage):
    return {name: usage[name].name for name in usage.names()}


def some_usages(scale, many, seed=1):
    """Usages with random grades, and their places as plain dicts."""
    source = random.Random(seed)
    found = []
    for _ in range(many):
        usage, places = Usage(scale), {name: scale.zero_at for name in NAMES}
        for name in NAMES:
            if source.random() < 0.7:
                places[name] = source.choice(scale.places())
                usage[name] = Grade(scale, places[name])
        found.append((usage, places))
    return found


class UsageTest(unittest.TestCase):
    def same(self, usage, places, scale):
        """The usage gives these places to the names and tells only of those that are not zero."""
        kept = [name for name in sorted(places) if places[name] != scale.zero_at]
        self.assertEqual(usage.names(), kept)
        self.assertEqual(len(usage), len(kept))
        self.assertEqual({name: usage[name].place for name in places}, places)
        self.assertEqual(str(usage), " ".join(f"{name}:{scale.name_at(places[name])}" for name in kept))
        for name in places:
            self.assertIs(name in usage, name in kept)

    def test_a_new_usage_gives_zero_to_all(self):
        for scale in scales() + [ExactTally(), MostTally()]:
            usage = Usage(scale)
            self.assertIs(usage.scale, scale)
            self.assertEqual((len(usage), usage.names(), str(usage)), (0, [], ""))
            self.assertEqual(usage["a"], Grade.zero(scale))
            self.assertIs("a" in usage, False)
            self.assertEqual(len(usage), 0)

    def test_setting(self):
        usage = Usage(MostTally())
        for name, grade in (("b", "3"), ("a", "1"), ("c", "2"), ("b", "5")):
            usage[name] = Grade.named(MostTally(), grade)
        self.assertEqual((usage.names(), len(usage), str(usage)), (["a", "b", "c"], 3, "a:1 b:5 c:2"))
        usage["a"] = Grade.zero(MostTally())
        usage["d"] = Grade.zero(MostTally())
        self.assertEqual((usage.names(), len(usage), str(usage)), (["b", "c"], 2, "b:5 c:2"))
        self.assertEqual(("a" in usage, "b" in usage, "d" in usage), (False, True, False))
        self.assertEqual(usage["b"], Grade(MostTally(), 5))
        usage["b"] = usage["c"] = Grade.zero(MostTally())
        self.assertEqual((len(usage), str(usage)), (0, ""))

    def test_names_are_a_list_of_the_callers_own(self):
        usage = made(MostTally(), a="1")
        usage.names().append("b")
        self.assertEqual(usage.names(), ["a"])

    def test_zero_may_have_any_name_and_place(self):
        scale = TurnedScale(as_table(LevelScale(2), zero="g1", one="g0"))
        usage = made(scale, a="g1", b="g0")
        self.assertEqual((usage.names(), str(usage)), (["b"], "b:g0"))

    def test_setting_a_grade_of_another_scale_changes_nothing(self):
        usage = made(CutScale(3), a="2")
        for other in (CutScale(4), CutScale(3, order="up"), MostTally(), as_table(CutScale(3))):
            for name in ("a", "b"):
                for place in (0, 1):
                    with self.assertRaises(MixedScales):
                        usage[name] = Grade(other, place)
        self.assertEqual(told(usage), {"a": "2"})
        usage["b"] = Grade(CutScale(3), 1)
        self.assertEqual(told(usage), {"a": "2", "b": "1"})

    def test_without(self):
        usage = made(MostTally(), a="1", b="2", c="3")
        for names in itertools.chain.from_iterable(itertools.product(("a", "b", "c", "d"), repeat=many)
                                                   for many in range(4)):
            left = usage.without(*names)
            self.assertEqual(told(left), {name: usage[name].name for name in "abc" if name not in names})
            left["e"] = Grade(MostTally(), 9)
            left["a"] = Grade(MostTally(), 8)
            self.assertEqual(told(usage), {"a": "1", "b": "2", "c": "3"})
        self.assertEqual(told(Usage(MostTally()).without("a")), {})

    def test_copies_go_on_apart(self):
        usage = made(LevelScale(3), a="1")
        copy = usage.copy()
        self.assertEqual(told(copy), {"a": "1"})
        copy["a"] = Grade.named(LevelScale(3), "2")
        usage["b"] = Grade.named(LevelScale(3), "1")
        self.assertEqual((told(copy), told(usage)), ({"a": "2"}, {"a": "1", "b": "1"}))
        usage += copy
        self.assertEqual((told(copy), told(usage)), ({"a": "2"}, {"a": "2", "b": "1"}))

    def test_one_of(self):
        for scale in scales() + [ExactTally(), LeastTally()]:
            usage = Usage.one_of(scale, "a")
            self.assertIsInstance(usage, Usage)
            self.assertEqual(usage["a"], Grade.one(scale))
            self.assertEqual(usage["b"], Grade.zero(scale))
            self.assertEqual(usage.names(), [] if scale.one_at == scale.zero_at else ["a"])
        self.assertEqual(len(Usage.one_of(CutScale(0), "a")), 0)

    def test_total(self):
        scale = MostTally()
        u, v, w = made(scale, a="1"), made(scale, a="2", b="1"), made(scale, c="4")
        self.assertEqual(told(Usage.total(scale)), {})
        self.assertEqual(told(Usage.total(scale, v)), {"a": "2", "b": "1"})
        self.assertEqual(told(Usage.total(scale, u, v)), {"a": "3", "b": "1"})
        self.assertEqual(told(Usage.total(scale, u, v, w)), {"a": "3", "b": "1", "c": "4"})
        self.assertEqual(told(Usage.total(scale, v, v, v)), {"a": "6", "b": "3"})
        single = Usage.total(scale, v)
        single["a"] = Grade.zero(scale)
        self.assertEqual(told(v), {"a": "2", "b": "1"})
        for usages in ((Usage(LevelScale(2)),), (u, Usage(ExactTally())), (Usage(ExactTally()), u)):
            with self.assertRaises(MixedScales):
                Usage.total(scale, *usages)
        self.assertIsInstance(vars(Usage)["total"], staticmethod)
        self.assertIsInstance(vars(Usage)["one_of"], classmethod)

    def test_operators_work_name_by_name(self):
        for scale in scales():
            pairs = some_usages(scale, 12)
            for (u, first), (v, second) in itertools.product(pairs, repeat=2):
                self.same(u + v, {n: scale.sum_at(first[n], second[n]) for n in NAMES}, scale)
                self.assertIs(u <= v, all(scale.within_at(first[n], second[n]) for n in NAMES))
                self.assertIs(u >= v, v <= u)
                self.assertIs(u == v, first == second)
                self.assertIs(u != v, first != second)
                self.check_bound(u, v, first, second, scale)
                self.same(u, first, scale)
                self.same(v, second, scale)

    def check_bound(self, u, v, first, second, scale):
        bounds = {name: scale.bound_at(first[name], second[name]) for name in NAMES}
        failed = [name for name in sorted(NAMES) if bounds[name] is None]
        if not failed:
            self.same(u | v, bounds, scale)
            return
        with self.assertRaises(NoBound) as caught:
            u | v
        error, name = caught.exception, failed[0]
        self.assertEqual((error.name, error.first, error.second),
                         (name, scale.name_at(first[name]), scale.name_at(second[name])))

    def test_grade_times_usage(self):
        for scale in scales():
            for usage, places in some_usages(scale, 5):
                for place in scale.places():
                    product = Grade(scale, place) * usage
                    self.same(product, {n: scale.product_at(place, places[n]) for n in NAMES}, scale)
                    self.same(usage, places, scale)

    def test_the_grade_is_the_left_factor(self):
        scale = RelationScale(2)
        usage = made(scale, a="0010")
        self.assertEqual(told(Grade.named(scale, "0100") * usage), {"a": "1000"})
        with self.assertRaises(TypeError):
            usage * Grade.named(scale, "0100")
        with self.assertRaises(TypeError):
            2 * usage

    def test_tallies(self):
        u, v = made(ExactTally(), a="3", b="1"), made(ExactTally(), a="3", c="2")
        self.assertEqual(told(u + v), {"a": "6", "b": "1", "c": "2"})
        with self.assertRaises(NoBound) as caught:
            u | v
        self.assertEqual((caught.exception.name, caught.exception.first, caught.exception.second), ("b", "1", "0"))
        with self.assertRaises(NoBound) as caught:
            v.without("c") | v
        self.assertEqual((caught.exception.name, caught.exception.first, caught.exception.second), ("c", "0", "2"))
        u, v = made(MostTally(), a="3", b="1"), made(MostTally(), a="2", c="2")
        self.assertEqual(told(u | v), {"a": "3", "b": "1", "c": "2"})
        u, v = made(LeastTally(), a="3", b="1"), made(LeastTally(), a="2", c="2")
        self.assertEqual(told(u | v), {"a": "2"})
        self.assertEqual((Usage(LeastTally()) <= u, u <= Usage(LeastTally())), (False, True))

    def test_adding_in_place(self):
        for scale in scales():
            for (u, first), (v, second) in itertools.product(some_usages(scale, 8), some_usages(scale, 8, seed=2)):
                grown, alias = u.copy(), None
                alias = grown
                grown += v
                self.assertIs(grown, alias)
                self.same(alias, {n: scale.sum_at(first[n], second[n]) for n in NAMES}, scale)
                self.same(u, first, scale)
                self.same(v, second, scale)

    def test_adding_to_itself_and_by_a_second_name(self):
        u = made(MostTally(), a="1", b="2")
        second = u
        u += u
        self.assertEqual(told(second), {"a": "2", "b": "4"})
        u += second
        self.assertEqual(told(second), {"a": "4", "b": "8"})
        second += made(MostTally(), c="1")
        self.assertEqual(told(u), {"a": "4", "b": "8", "c": "1"})
        u = made(CutScale(0, period=2), a="1")
        u += u
        self.assertEqual((told(u), len(u), "a" in u), ({}, 0, False))

    def test_other_scales_are_mixed(self):
        pairs = [(CutScale(2), CutScale(3)), (CutScale(2), CutScale(2, order="up")), (MostTally(), LeastTally()),
                 (LevelScale(2), TurnedScale(LevelScale(2))), (SubsetScale(1), as_table(SubsetScale(1))),
                 (PairScale(LevelScale(2), LevelScale(3)), PairScale(LevelScale(3), LevelScale(2)))]
        for first, second in pairs:
            for u in (Usage(first), Usage.one_of(first, "a")):
                for v in (Usage(second), Usage.one_of(second, "b")):
                    before = (u.copy(), v.copy())
                    for act in (lambda: u + v, lambda: u | v, lambda: u <= v, lambda: u >= v,
                                lambda: Grade.one(first) * v, lambda: Grade.zero(second) * u,
                                lambda: u.__iadd__(v), lambda: Usage.total(first, v)):
                        with self.assertRaises(MixedScales):
                            act()
                    self.assertIs(u == v, False)
                    self.assertIs(u != v, True)
                    self.assertEqual((u, v), before)

    def test_scales_that_are_made_anew_are_the_same(self):
        def scale():
            return PairScale(CutScale(2, order="up"), MostTally())
        u, v = made(scale(), a="<1/3>"), made(scale(), a="<1/3>", b="<0/1>")
        self.assertTrue(u == made(scale(), a="<1/3>"))
        self.assertTrue(u <= v)
        self.assertEqual(told(u + v), {"a": "<many/6>", "b": "<0/1>"})
        self.assertEqual(told(u | v), {"a": "<1/3>", "b": "<0/1>"})
        self.assertEqual(told(Grade.named(scale(), "<1/2>") * u), {"a": "<1/6>"})
        u += v
        u["c"] = Grade.one(scale())
        self.assertEqual(told(u), {"a": "<many/6>", "b": "<0/1>", "c": "<1/1>"})

    def test_results_are_usages_of_their_own(self):
        scale = MostTally()
        u, v = made(scale, a="1"), Usage(scale)
        one = Grade.one(scale)
        for result in (u + v, v + u, u | v, one * u, u.copy(), u.without(), Usage.total(scale, u)):
            self.assertEqual(told(result), {"a": "1"})
            result["a"] = Grade.named(scale, "7")
            result["b"] = one
            self.assertEqual((told(u), told(v)), ({"a": "1"}, {}))

    def test_beside_a_value_that_is_no_usage(self):
        usage = Usage(MostTally())
        for other in (None, 0, "", {}, [], Grade.zero(MostTally())):
            self.assertIs(usage == other, False)
            self.assertIs(usage != other, True)


if __name__ == "__main__":
    unittest.main()
