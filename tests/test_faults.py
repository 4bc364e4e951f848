import random
import unittest

from helpers import as_table, family_scales, made_scales, plain_faults, wild_tables
from usescale.families import CutScale, LevelScale, PairScale, RelationScale, SpanScale, SubsetScale, TurnedScale
from usescale.faults import first_fault
from usescale.labels import read_scale
from usescale.scales import TableScale
from usescale.tallies import ExactTally, LeastTally, MostTally

CHAIN_SUMS = "(g0 g1 g2 g3 g4 g1 g1 g2 g3 g4 g2 g2 g2 g4 g4 g3 g3 g4 g3 g4 g4 g4 g4 g4 g4)"
CHAIN_PRODUCTS = "(g0 g0 g0 g0 g0 g0 g1 g2 g1 g2 g0 g1 g2 g2 g2 g0 g1 g2 g3 g4 g0 g1 g2 g4 g4)"

# For each rule a table that breaks it and no other rule.
ALONE = {
    "same": (("a",), "(table (a b) b a (00 00) (a a a b) (a b b b))"),
    "both": (("a", "b"), "(table (a b) b a (11 11) (a a a b) (a b b b))"),
    "chain": (("g0", "g1", "g2"), "(table (g0 g1 g2) g0 g2 (110 011 001) (g0 g1 g2 g1 g1 g2 g2 g2 g2)"
                                  " (g0 g0 g0 g0 g1 g1 g0 g1 g2))"),
    "sum-swap": (("a", "b"), "(table (a b) a b (10 01) (a a b b) (a a a b))"),
    "sum-group": (("g1", "g1", "g2"), "(table (g0 g1 g2) g0 g1 (100 010 001) (g0 g1 g2 g1 g0 g0 g2 g0 g0)"
                                      " (g0 g0 g0 g0 g1 g2 g0 g2 g1))"),
    "sum-zero": (("b",), "(table (a b) a b (10 01) (a a a a) (a a a b))"),
    "product-group": (("g1", "g2", "g2"),
                      "(table (g0 g1 g2 g3 g4) g0 g4 (11111 01111 00111 00011 00001)"
                      " (g0 g1 g2 g3 g4 g1 g1 g2 g3 g4 g2 g2 g2 g3 g4 g3 g3 g3 g3 g4 g4 g4 g4 g4 g4)"
                      " (g0 g0 g0 g0 g0 g0 g0 g1 g1 g1 g0 g1 g1 g2 g2 g0 g1 g2 g3 g3 g0 g1 g2 g3 g4))"),
    "product-one": (("a",), "(table (a b) b b (10 01) (a a a b) (a b b b))"),
    "product-zero": (("a",), "(table (a b) b b (10 01) (a a a b) (a a a b))"),
    "spread-left": (("f", "i", "f"), "(table (o i f c d) o i (10000 01000 00100 00010 00001)"
                                     " (o i f c d i i c c i f c f c f c c c c c d i f c d)"
                                     " (o o o o o o i f c d o f i d c o c c c c o d d d d))"),
    "spread-right": (("i", "f", "f"), "(table (o i f c d) o i (10000 01000 00100 00010 00001)"
                                      " (o i f c d i i c c i f c f c f c c c c c d i f c d)"
                                      " (o o o o o o i f c d o f i c d o c d c d o d c c d))"),
    "sum-within": (("b", "a", "b"), "(table (a b) a b (10 11) (a b b a) (a a a b))"),
    "left-within": (("g0", "g1", "g2"), "(table (g0 g1 g2 g3 g4) g0 g3 (11000 01000 00100 00010 00001) "
                                        f"{CHAIN_SUMS} {CHAIN_PRODUCTS})"),
    "right-within": (("g1", "g3", "g2"), "(table (g0 g1 g2 g3 g4) g0 g3 (10000 01010 00101 00010 00001) "
                                         f"{CHAIN_SUMS} {CHAIN_PRODUCTS})"),
    "bound": (("a", "b"),
              "(table (o i a b c d t) o i (1000000 0100000 0010110 0001110 0000100 0000010 0000001)"
              " (o i a b c d t i t t t t t t a t t t t t t b t t t t t t c t t t t t t d t t t t t t t t t t t t t)"
              " (o o o o o o o o i a b c d t o a t t t t t o b t t t t t o c t t t t t o d t t t t t o t t t t t t))"),
}


def mended_tables():
    """Tables that come of regular scales by a few changes, so that the later rules have their turn."""
    source = random.Random(11)
    scales = [scale for scale in family_scales() + made_scales() if 2 <= scale.size <= 6]
    for count in range(150):
        scale = source.choice(scales)
        table = as_table(scale)
        places = table.places()
        rows = {"within": [[table.within_at(a, b) for b in places] for a in places],
                "sums": [[table.name_at(table.sum_at(a, b)) for b in places] for a in places],
                "products": [[table.name_at(table.product_at(a, b)) for b in places] for a in places]}
        for _ in range(1 + count % 2):
            part = source.choice(sorted(rows))
            row, column = source.choice(places), source.choice(places)
            rows[part][row][column] = not rows[part][row][column] if part == "within" else f"g{source.choice(places)}"
        yield as_table(scale, **rows)


class FirstFaultTest(unittest.TestCase):
    def test_each_rule_broken_alone(self):
        self.assertEqual(len(ALONE), 15)
        for word, (names, label) in ALONE.items():
            with self.subTest(word=word):
                scale = read_scale(label)
                self.assertEqual(plain_faults(scale), [(word, names)])
                self.assertEqual(first_fault(scale), (word, names))

    def test_regular_scales(self):
        for scale in family_scales() + made_scales():
            self.assertIsNone(first_fault(scale), scale.label)
            self.assertIsNone(first_fault(as_table(scale)), scale.label)
        for scale in (CutScale(15, order="up"), CutScale(15, order="down"), CutScale(3, period=13), SubsetScale(4),
                      SpanScale(4), LevelScale(16), TurnedScale(RelationScale(2)),
                      PairScale(RelationScale(1), SubsetScale(3))):
            self.assertIsNone(first_fault(scale), scale.label)

    def test_endlessly_many_grades(self):
        broken = read_scale(ALONE["same"][1])
        for scale in (ExactTally(), MostTally(), LeastTally(), PairScale(ExactTally(), LevelScale(2)),
                      PairScale(LevelScale(2), MostTally()), PairScale(broken, LeastTally())):
            self.assertIsNone(first_fault(scale), scale.label)

    def test_zero_and_one_may_be_the_same_grade(self):
        self.assertIsNone(first_fault(TableScale(["a"], [[True]], [["a"]], [["a"]], zero="a", one="a")))
        two = TableScale(["a", "b"], [[True] * 2, [False, True]], [["a", "b"], ["b", "b"]], [["a"] * 2, ["a", "b"]],
                         zero="a", one="a")
        self.assertEqual(first_fault(two), ("product-one", ("b",)))

    def test_wild_tables(self):
        for scale in wild_tables():
            self.assertEqual(first_fault(scale), (plain_faults(scale) + [None])[0], scale.label)

    def test_tables_with_few_faults(self):
        words = set()
        for scale in mended_tables():
            expected = (plain_faults(scale) + [None])[0]
            self.assertEqual(first_fault(scale), expected, scale.label)
            words.add(expected and expected[0])
        self.assertGreaterEqual(len(words), 10)

    def test_pairs_and_turned_scales_that_are_not_regular(self):
        tables = [read_scale(label) for _, label in ALONE.values()]
        small = [table for table in tables if table.size <= 3]
        for table in small:
            for scale in (PairScale(table, LevelScale(2)), PairScale(LevelScale(2), table), TurnedScale(table),
                          PairScale(TurnedScale(table), LevelScale(1))):
                self.assertEqual(first_fault(scale), plain_faults(scale)[0], scale.label)
        for table in tables:
            scale = TurnedScale(table)
            self.assertEqual(first_fault(scale), (plain_faults(scale) + [None])[0], scale.label)

    def test_names_of_a_pair(self):
        table = read_scale(ALONE["sum-zero"][1])
        self.assertEqual(first_fault(PairScale(LevelScale(2), table)), ("sum-zero", ("<0/b>",)))
        self.assertEqual(first_fault(PairScale(table, LevelScale(2))), ("sum-zero", ("<b/0>",)))

    def test_of_all_tuples_the_first_one(self):
        names = ["a", "b", "c"]
        same = [[a == b for b in names] for a in names]
        sums = [["a", "b", "c"], ["b", "b", "c"], ["c", "b", "c"]]
        scale = TableScale(names, same, sums, sums, zero="a", one="a")
        self.assertEqual(first_fault(scale), ("sum-swap", ("b", "c")))
        within = [[True, True, True], [False, True, True], [True, False, True]]
        scale = TableScale(names, within, sums, sums, zero="a", one="a")
        self.assertEqual(first_fault(scale), ("both", ("a", "c")))


if __name__ == "__main__":
    unittest.main()
