import unittest

from helpers import plain_bound, random_table, wild_tables
from usescale.errors import BadScale, UnknownGrade
from usescale.scales import Scale, TableScale


def two_grades(**changes):
    """What a small table is made of, with changes."""
    given = {
        "names": ["no", "yes"],
        "within": [[True, True], [False, True]],
        "sums": [["no", "yes"], ["yes", "yes"]],
        "products": [["no", "no"], ["no", "yes"]],
        "zero": "no", "one": "yes",
    }
    given.update(changes)
    return given


def made(given):
    return TableScale(given["names"], given["within"], given["sums"], given["products"],
                      zero=given["zero"], one=given["one"])


def with_names(names):
    """A table with these names, all of whose sums and products are the first one."""
    rows = [[names[0]] * len(names) for _ in names]
    within = [[True] * len(names) for _ in names]
    return TableScale(names, within, rows, rows, zero=names[0], one=names[-1])


class TableTest(unittest.TestCase):
    def test_attributes_and_methods(self):
        scale = made(two_grades())
        self.assertIsInstance(scale, Scale)
        self.assertEqual((scale.size, scale.zero_at, scale.one_at), (2, 0, 1))
        self.assertEqual(scale.places(), [0, 1])
        self.assertEqual([scale.sum_at(0, 0), scale.sum_at(0, 1), scale.product_at(0, 1)], [0, 1, 0])
        self.assertIs(scale.within_at(0, 1), True)
        self.assertIs(scale.within_at(1, 0), False)
        self.assertEqual([scale.name_at(0), scale.name_at(1)], ["no", "yes"])
        self.assertEqual(scale.at_name("yes"), 1)

    def test_zero_and_one_are_told_by_name(self):
        scale = made(two_grades(zero="yes", one="no"))
        self.assertEqual((scale.zero_at, scale.one_at), (1, 0))
        with self.assertRaises(TypeError):
            TableScale(["a"], [[True]], [["a"]], [["a"]], "a", "a")

    def test_the_left_grade_is_the_row(self):
        scale = made(two_grades(sums=[["no", "yes"], ["no", "no"]], products=[["yes", "no"], ["yes", "no"]]))
        self.assertEqual([scale.sum_at(a, b) for a in (0, 1) for b in (0, 1)], [0, 1, 0, 0])
        self.assertEqual([scale.product_at(a, b) for a in (0, 1) for b in (0, 1)], [1, 0, 1, 0])

    def test_label(self):
        self.assertEqual(made(two_grades()).label, "(table (no yes) no yes (11 01) (no yes yes yes) (no no no yes))")
        one = TableScale(["a"], [[False]], [["a"]], [["a"]], zero="a", one="a")
        self.assertEqual(one.label, "(table (a) a a (0) (a) (a))")

    def test_lists_are_neither_kept_nor_changed(self):
        given = two_grades()
        scale = made(given)
        self.assertEqual(given, two_grades())
        given["names"][0] = "other"
        given["within"][0][1] = False
        given["sums"][0][0] = "yes"
        given["products"].clear()
        self.assertEqual(scale.name_at(0), "no")
        self.assertEqual(scale.at_name("no"), 0)
        self.assertTrue(scale.within_at(0, 1))
        self.assertEqual((scale.sum_at(0, 0), scale.product_at(0, 0)), (0, 0))
        self.assertEqual(scale.label, made(two_grades()).label)

    def test_a_returned_list_belongs_to_the_caller(self):
        scale = made(two_grades())
        scale.places().append(7)
        self.assertEqual(scale.places(), [0, 1])

    def test_sixteen_names_and_seventeen(self):
        self.assertEqual(with_names([f"a{k}" for k in range(16)]).size, 16)
        with self.assertRaises(BadScale):
            with_names([f"a{k}" for k in range(17)])

    def test_no_names(self):
        with self.assertRaises(BadScale):
            TableScale([], [], [], [], zero="a", one="a")

    def test_which_strings_are_names(self):
        for name in ("a", "z", "0", "9", "many", "0to1", "abcdefghijkl", "int"):
            with self.subTest(name=name):
                self.assertEqual(with_names([name]).name_at(0), name)
        for name in ("", "abcdefghijklm", "A", "a b", "a-", "_", "<", "a/b", "\u00e4", "\u0663", "\u00b2", "?", " a"):
            with self.subTest(name=name), self.assertRaises(BadScale):
                with_names([name])

    def test_a_name_twice(self):
        with self.assertRaises(BadScale):
            with_names(["a", "b", "a"])

    def test_tables_of_another_shape(self):
        for table in ("within", "sums", "products"):
            good = two_grades()[table]
            for bad in ([], good[:1], good + good[:1], [good[0], good[1][:1]], [good[0] + good[0][:1], good[1]],
                        [[], []]):
                with self.subTest(table=table, bad=bad), self.assertRaises(BadScale):
                    made(two_grades(**{table: bad}))

    def test_entries_that_are_no_names(self):
        for table in ("sums", "products"):
            with self.subTest(table=table), self.assertRaises(BadScale):
                made(two_grades(**{table: [["no", "yes"], ["yes", "Yes"]]}))
        for part in ("zero", "one"):
            with self.subTest(part=part), self.assertRaises(BadScale):
                made(two_grades(**{part: ""}))

    def test_unknown_grade(self):
        scale = made(two_grades())
        for name in ("", "No", "no ", "0", "yesyes", "<no/yes>"):
            with self.subTest(name=name), self.assertRaises(UnknownGrade) as caught:
                scale.at_name(name)
            self.assertEqual(caught.exception.name, name)


class BoundOfTableTest(unittest.TestCase):
    def ordered(self, rows):
        names = [f"n{k}" for k in range(len(rows))]
        table = [[names[0]] * len(rows) for _ in rows]
        within = [[sign == "1" for sign in row] for row in rows]
        return TableScale(names, within, table, table, zero="n0", one="n0")

    def test_of_several_least_bounds_the_lowest_place(self):
        scale = self.ordered(["1111", "0111", "0111", "0001"])
        self.assertEqual(scale.bound_at(0, 1), 1)
        self.assertEqual(scale.bound_at(2, 2), 1)

    def test_no_upper_bound(self):
        self.assertIsNone(self.ordered(["10", "01"]).bound_at(0, 1))

    def test_no_upper_bound_within_all_upper_bounds(self):
        scale = self.ordered(["1011", "0111", "0010", "0001"])
        self.assertIsNone(scale.bound_at(0, 1))
        self.assertEqual(scale.bound_at(0, 0), 0)

    def test_an_upper_bound_that_does_not_lie_within_itself_is_no_least_bound(self):
        self.assertIsNone(self.ordered(["01", "00"]).bound_at(0, 0))
        self.assertEqual(self.ordered(["01", "01"]).bound_at(0, 0), 1)

    def test_a_grade_need_not_be_its_own_least_bound(self):
        scale = self.ordered(["011", "011", "001"])
        self.assertEqual(scale.bound_at(0, 0), 1)

    def test_an_order_that_is_no_chain(self):
        scale = self.ordered(["110", "011", "101"])
        self.assertEqual(scale.bound_at(0, 0), 0)
        self.assertEqual(scale.bound_at(0, 1), 1)
        self.assertEqual(scale.bound_at(0, 2), 0)

    def test_wild_tables(self):
        for scale in wild_tables():
            for first in scale.places():
                for second in scale.places():
                    with self.subTest(label=scale.label, first=first, second=second):
                        self.assertEqual(scale.bound_at(first, second), plain_bound(scale, first, second))

    def test_wild_tables_of_the_greatest_size(self):
        scale = random_table(1, 16)
        for first in scale.places():
            for second in scale.places():
                self.assertEqual(scale.bound_at(first, second), plain_bound(scale, first, second))


if __name__ == "__main__":
    unittest.main()
