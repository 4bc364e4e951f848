import unittest

from helpers import family_scales, made_scales, names_of, nested, random_table, wild_tables
from usescale.errors import BadScale
from usescale.families import CutScale, LevelScale, PairScale, RelationScale, SpanScale, SubsetScale, TurnedScale
from usescale.labels import read_scale
from usescale.scales import TableScale
from usescale.tallies import ExactTally, LeastTally, MostTally

CLASSES = {
    "(cut 0 1 same)": CutScale, "(cut 63 1 down)": CutScale, "(cut 0 64 same)": CutScale, "(levels 64)": LevelScale,
    "(subsets 6)": SubsetScale, "(spans 9)": SpanScale, "(relations 2)": RelationScale, "(tally same)": ExactTally,
    "(tally up)": MostTally, "(tally down)": LeastTally, "(pair (tally up) (levels 2))": PairScale,
    "(turned (spans 1))": TurnedScale, "(table (a) a a (0) (a) (a))": TableScale,
}

WRONG = [
    "", " ", "(", ")", "()", "(())", "cut", "3", "(cut)", "(cut 1)", "(cut 1 1)", "(cut 1 1 same same)", "(cut 1 same)",
    "(cut -1 1 same)", "(cut 1 0 same)", "(cut 1 2 up)", "(cut 1 1 Same)", "(cut 1 1 upp)", "(cut 64 1 same)",
    "(cut 01 1 same)", "(cut +1 1 same)", "(cut 1 1 (same))", "(cut (1) 1 same)", "(cut 1.0 1 same)",
    "(cut one 1 same)", "(cut \u0661 1 same)", "(cut \u00b2 1 same)", "(cut 1_0 1 same)", "(Cut 1 1 same)",
    "(CUT 1 1 same)",
    "(cut 1 1 same", "cut 1 1 same)", "cut 1 1 same", "((cut 1 1 same))", "(cut 1 1 same))", "(cut 1 1 same)()",
    "(cut 1 1 same) (cut 1 1 same)", " (cut 1 1 same)", "(cut 1 1 same) ", "(cut  1 1 same)", "( cut 1 1 same)",
    "(cut 1 1 same )", "(cut\t1 1 same)", "(cut 1\n1 same)", "(cut 1 1 same)\n", "(cut 1 1\u00a0same)",
    "(levels 0)", "(levels 65)", "(levels 100)", "(levels " + "9" * 5000 + ")", "(levels)", "(levels 1 2)",
    "(levels (levels 2))", "(levels ())", "(subsets 0)", "(subsets 7)", "(spans 10)", "(spans -1)", "(relations 0)",
    "(relations 3)", "(relations 00)", "(tally)", "(tally Same)", "(tally most)", "(tally up up)", "(tally (up))",
    "(tally 1)", "(pair (levels 2))", "(pair (levels 2) (levels 2) (levels 2))", "(pair (levels 2) 2)",
    "(pair levels 2)", "(pair(levels 2) (levels 2))", "(pair (levels 2)(levels 2))", "(pair (levels 8) (levels 9))",
    "(pair (levels 65) (tally up))", "(turned)", "(turned levels)", "(turned (levels 2) (levels 2))",
    "(turned (tally same))", "(turned (tally up))", "(turned (pair (levels 2) (tally down)))",
    "(turned (pair (tally down) (levels 2)))", "(turned tally)", "(levelled 2)", "(places 2)", "(scale 2)",
]

TABLE = "(table (a b) a b (10 01) (a b b b) (a a a b))"

WRONG_TABLES = [
    "(table)", "(table (a b) a b (10 01) (a b b b))", "(table a a b (10 01) (a b b b) (a a a b))",
    "(table () a b () () ())", "(table () () () () () ())", "(table (a b) (a) b (10 01) (a b b b) (a a a b))",
    "(table (a a) a a (10 01) (a a a a) (a a a a))", "(table (a B) a a (10 01) (a a a a) (a a a a))",
    "(table (a b) a c (10 01) (a b b b) (a a a b))", "(table (a b) c b (10 01) (a b b b) (a a a b))",
    "(table (a b) a b (10) (a b b b) (a a a b))", "(table (a b) a b (10 01 10) (a b b b) (a a a b))",
    "(table (a b) a b (1001) (a b b b) (a a a b))", "(table (a b) a b (10 0) (a b b b) (a a a b))",
    "(table (a b) a b (10 012) (a b b b) (a a a b))", "(table (a b) a b (10 02) (a b b b) (a a a b))",
    "(table (a b) a b (1 0 0 1) (a b b b) (a a a b))", "(table (a b) a b 10 (a b b b) (a a a b))",
    "(table (a b) a b ((10) 01) (a b b b) (a a a b))", "(table (a b) a b (10 01) (a b b) (a a a b))",
    "(table (a b) a b (10 01) (a b b b a) (a a a b))", "(table (a b) a b (10 01) (a b b b a a) (a a a b))",
    "(table (a b) a b (10 01) ((a b) (b b)) (a a a b))", "(table (a b) a b (10 01) (a b b c) (a a a b))",
    "(table (a b) a b (10 01) (a b b b) (a a a))", "(table (a b) a b (10 01) (a b b b) a)",
    "(table (a b) a b (10 01) (a b b b) (a a a b) ())", "(table (a (b)) a a (10 01) (a a a a) (a a a a))",
    "(table (a b)  a b (10 01) (a b b b) (a a a b))", "(table (a  b) a b (10 01) (a b b b) (a a a b))",
    "(table (a b ) a b (10 01) (a b b b) (a a a b))", "(table (abcdefghijklm) a a (1) (a) (a))",
]


class ReadScaleTest(unittest.TestCase):
    def scales(self):
        deep = nested(lambda inner: PairScale(MostTally(), inner), LevelScale(2), 19)
        return family_scales() + made_scales() + wild_tables() + [
            random_table(5, 16), ExactTally(), MostTally(), LeastTally(), PairScale(LevelScale(2), MostTally()),
            PairScale(PairScale(ExactTally(), LeastTally()), TurnedScale(random_table(2, 3))), deep,
            nested(TurnedScale, random_table(4, 2), 19), LevelScale(64), CutScale(0, period=64),
        ]

    def test_each_label_gives_its_scale(self):
        for scale in self.scales():
            found = read_scale(scale.label)
            self.assertEqual(found.label, scale.label)
            self.assertIs(type(found), type(scale))
            self.assertEqual((found.size, found.zero_at, found.one_at), (scale.size, scale.zero_at, scale.one_at))
            if scale.size is not None:
                places = scale.places()
                self.assertEqual((found.places(), names_of(found)), (places, names_of(scale)))
                for a in places[:9]:
                    for b in places[:9]:
                        self.assertEqual(
                            (found.sum_at(a, b), found.product_at(a, b), found.within_at(a, b)),
                            (scale.sum_at(a, b), scale.product_at(a, b), scale.within_at(a, b)))

    def test_literal_labels(self):
        for text, expected in CLASSES.items():
            with self.subTest(text=text):
                scale = read_scale(text)
                self.assertIs(type(scale), expected)
                self.assertEqual(scale.label, text)
        self.assertEqual(read_scale("(pair (tally up) (levels 2))").left.label, "(tally up)")
        self.assertEqual(read_scale("(turned (spans 1))").inner.label, "(spans 1)")
        self.assertEqual(read_scale(TABLE).label, TABLE)

    def test_other_texts(self):
        for text in WRONG + WRONG_TABLES:
            with self.subTest(text=text[:60]), self.assertRaises(BadScale):
                read_scale(text)

    def test_each_single_change_of_a_label(self):
        for label in list(CLASSES) + [TABLE]:
            changed = {label[:at] + sign + label[at:] for at in range(len(label) + 1) for sign in " ()0A-\t\n"}
            changed |= {label[:at] + label[at + 1:] for at in range(len(label))}
            changed |= {label[:at] + label[at:].upper() for at in range(len(label))}
            for text in changed - {label}:
                try:
                    found = read_scale(text)
                except BadScale:
                    continue
                self.assertEqual(found.label, text)

    def test_depth_twenty_and_twenty_one(self):
        table = TableScale(["a"], [[True]], [["a"]], [["a"]], zero="a", one="a").label
        for inner in ("(levels 2)", table, "(cut 0 1 same)"):
            turned = "(turned " * 19 + inner + ")" * 19
            self.assertEqual(read_scale(turned).label, turned)
            pairs = "(pair (tally up) " * 19 + inner + ")" * 19
            self.assertEqual(read_scale(pairs).label, pairs)
            lefts = "(pair " * 19 + inner + " (tally up))" * 19
            self.assertEqual(read_scale(lefts).label, lefts)
            for text in (f"(turned {turned})", f"(pair (tally up) {pairs})", f"(pair {lefts} (tally same))"):
                with self.assertRaises(BadScale):
                    read_scale(text)

    def test_however_deep(self):
        for many in (22, 100, 2000, 100000):
            for text in ("(turned " * many + "(levels 2)" + ")" * many, "(pair (levels 1) " * many,
                         "(" * many, "(" * many + ")" * many, "(turned " * many + "(tally up)" + ")" * many,
                         ")" * many, "(levels 2" + ")" * many):
                with self.assertRaises(BadScale):
                    read_scale(text)


if __name__ == "__main__":
    unittest.main()
