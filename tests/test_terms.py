import random
import unittest

from nameless import INT, deep_term, each_step, free_in, nameless, one_of_each, wild_terms
from usescale.terms import alike, free_names, term_depth, term_size

A, B, X, Y = ("name", "a"), ("name", "b"), ("name", "x"), ("name", "y")
LONG = 10 ** 60 - 1


def plain_size(term):
    return 1 + sum(plain_size(part) for part in parts(term))


def plain_depth(term):
    return 1 + max([plain_depth(part) for part in parts(term)], default=0)


def parts(term):
    places = {"add": (1, 2), "sub": (1, 2), "mul": (1, 2), "fn": (4,), "call": (1, 2), "pair": (1, 2),
              "split": (3, 4), "left": (2,), "right": (2,), "case": (1, 3, 5), "box": (2,), "unbox": (2, 3),
              "test": (1, 2, 3), "repeat": (1, 4, 5), "as": (2,)}
    return [term[at] for at in places.get(term[0], ())]


def with_another_name(term, source):
    """The term with one name replaced by another one somewhere."""
    places = [at for at in range(1, len(term)) if term[at] in ("x", "y", "z") or
              (isinstance(term[at], tuple) and term[at] in parts(term))]
    if not places:
        return term
    at = source.choice(places)
    changed = source.choice("xyz") if isinstance(term[at], str) else with_another_name(term[at], source)
    return term[:at] + (changed,) + term[at + 1:]


class FreeNamesTest(unittest.TestCase):
    def test_every_form(self):
        free = {"int": [], "name": ["a"], "fn": ["a"], "left": ["a"], "right": ["a"], "box": ["a"], "as": ["a"],
                "gone": [], "case": ["a", "b", "c"], "test": ["a", "b", "c"], "repeat": ["a", "b", "c"]}
        for word, term in one_of_each().items():
            self.assertEqual(free_names(term), free.get(word, ["a", "b"]), word)

    def test_what_each_binder_binds(self):
        both = ("add", X, Y)
        for term, free in (
                (("fn", "x", "1", INT, both), ["y"]),
                (("unbox", "x", both, both), ["x", "y"]), (("unbox", "x", Y, both), ["y"]),
                (("split", "x", "y", A, both), ["a"]), (("split", "x", "y", both, both), ["x", "y"]),
                (("case", A, "x", both, "y", B), ["a", "b", "y"]), (("case", A, "x", B, "y", both), ["a", "b", "x"]),
                (("case", both, "x", X, "y", Y), ["x", "y"]),
                (("repeat", A, "x", "1", B, both), ["a", "b", "y"]), (("repeat", X, "x", "1", B, A), ["a", "b", "x"]),
                (("repeat", A, "x", "1", X, B), ["a", "b", "x"]), (("split", "x", "x", A, both), ["a", "y"])):
            self.assertEqual(free_names(term), free, term)

    def test_inner_binders_hide_outer_ones(self):
        term = ("fn", "x", "1", INT, ("add", ("fn", "x", "1", INT, X), ("call", X, Y)))
        self.assertEqual(free_names(term), ["y"])
        self.assertEqual(free_names(("add", ("fn", "x", "1", INT, X), X)), ["x"])
        self.assertEqual(free_names(("add", X, ("fn", "x", "1", INT, X))), ["x"])

    def test_each_name_once_and_ascending(self):
        term = ("add", ("add", ("name", "x9"), ("name", "x10")), ("mul", ("name", "b"), ("add", B, ("name", "x9"))))
        self.assertEqual(free_names(term), ["b", "x10", "x9"])

    def test_random_terms(self):
        for term in wild_terms(600):
            self.assertEqual(free_names(term), sorted(free_in(nameless(term))))


class SizeTest(unittest.TestCase):
    def test_every_form(self):
        sizes = {"int": 1, "name": 1, "fn": 2, "left": 2, "right": 2, "box": 2, "as": 2, "gone": 1, "case": 4,
                 "test": 4, "repeat": 4}
        for word, term in one_of_each().items():
            self.assertEqual(term_size(term), sizes.get(word, 3), word)
            self.assertEqual(term_depth(term), 1 if word in ("int", "name", "gone") else 2, word)

    def test_every_part_counts(self):
        inner = ("add", A, ("sub", A, B))
        for step in each_step():
            term = step(inner)
            self.assertEqual((term_size(term), term_depth(term)), (plain_size(term), 4), term)

    def test_random_and_deep_terms(self):
        for term in wild_terms(300) + [deep_term(X, times) for times in (28, 83, 100, 150)]:
            self.assertEqual((term_size(term), term_depth(term)), (plain_size(term), plain_depth(term)))
        self.assertEqual(term_depth(deep_term(("int", LONG), 99)), 100)
        self.assertEqual(free_names(deep_term(("name", "q"), 120)), ["b", "q"])
        self.assertEqual(free_names(deep_term(X, 120)), ["b"])


class AlikeTest(unittest.TestCase):
    def test_equal_terms_are_alike_and_other_forms_are_not(self):
        terms = list(one_of_each().values())
        for first in terms:
            for second in terms:
                self.assertIs(alike(first, second), first == second)

    def test_renamed_binders(self):
        for first, second in (
                (("fn", "x", "1", INT, X), ("fn", "y", "1", INT, Y)),
                (("split", "x", "y", A, ("sub", X, Y)), ("split", "y", "x", A, ("sub", Y, X))),
                (("case", A, "x", X, "y", Y), ("case", A, "y", Y, "y", Y)),
                (("unbox", "x", X, X), ("unbox", "y", X, Y)),
                (("repeat", X, "x", "?", X, X), ("repeat", X, "y", "?", X, Y)),
                (("fn", "x", "1", INT, ("fn", "y", "1", INT, ("call", X, Y))),
                 ("fn", "y", "1", INT, ("fn", "x", "1", INT, ("call", Y, X)))),
                (("fn", "x", "1", INT, ("fn", "x", "1", INT, X)), ("fn", "y", "1", INT, ("fn", "x", "1", INT, X)))):
            self.assertIs(alike(first, second), True)
            self.assertIs(alike(second, first), True)

    def test_names_that_mean_something_else(self):
        for first, second in (
                (X, Y), (("fn", "x", "1", INT, X), ("fn", "y", "1", INT, X)),
                (("fn", "x", "1", INT, Y), ("fn", "y", "1", INT, Y)),
                (("split", "x", "y", A, ("sub", X, Y)), ("split", "y", "x", A, ("sub", X, Y))),
                (("case", A, "x", X, "y", X), ("case", A, "x", X, "x", X)),
                (("case", A, "x", Y, "y", Y), ("case", A, "y", Y, "y", Y)),
                (("unbox", "x", X, X), ("unbox", "y", Y, Y)),
                (("repeat", X, "x", "1", X, X), ("repeat", X, "y", "1", Y, Y)),
                (("fn", "x", "1", INT, ("fn", "y", "1", INT, X)), ("fn", "x", "1", INT, ("fn", "x", "1", INT, X))),
                (("add", ("fn", "x", "1", INT, X), X), ("add", ("fn", "y", "1", INT, Y), Y))):
            self.assertIs(alike(first, second), False)
            self.assertIs(alike(second, first), False)

    def test_a_split_that_binds_one_name_twice_means_the_second_half(self):
        twice = ("split", "x", "x", A, X)
        self.assertIs(alike(twice, ("split", "x", "y", A, Y)), True)
        self.assertIs(alike(("split", "b", "y", A, Y), twice), True)
        self.assertIs(alike(twice, ("split", "y", "y", A, Y)), True)
        self.assertIs(alike(twice, ("split", "x", "y", A, X)), False)
        self.assertIs(alike(twice, ("split", "x", "y", A, B)), False)

    def test_grades_and_kinds_and_integers(self):
        other = ("pair", INT, INT)
        for first, second in (
                (("int", 1), ("int", -1)), (("int", LONG), ("int", LONG - 1)),
                (("fn", "x", "1", INT, X), ("fn", "x", "0", INT, X)),
                (("fn", "x", "1", INT, X), ("fn", "x", "?", INT, X)),
                (("fn", "x", "1", INT, X), ("fn", "x", "1", other, X)), (("left", INT, A), ("left", other, A)),
                (("right", INT, A), ("right", other, A)), (("box", "1", A), ("box", "0", A)),
                (("repeat", A, "x", "1", A, A), ("repeat", A, "x", "?", A, A)), (("as", INT, A), ("as", other, A)),
                (("gone", INT), ("gone", other)), (("left", INT, A), ("right", INT, A)),
                (("fn", "x", "1", ("fun", "1", INT, INT), X), ("fn", "x", "1", ("fun", "0", INT, INT), X))):
            self.assertIs(alike(first, second), False)
        self.assertIs(alike(("int", LONG), ("int", LONG)), True)
        self.assertIs(alike(("gone", other), ("gone", ("pair", ("int",), ("int",)))), True)

    def test_random_terms(self):
        source = random.Random(3)
        counts = {True: 0, False: 0}
        for first in wild_terms(2500, depth=5, names=("x", "y", "z")):
            second = first
            for _ in range(source.randint(1, 3)):
                second = with_another_name(second, source)
            expected = nameless(first) == nameless(second)
            counts[expected] += first != second
            self.assertIs(alike(first, second), expected, (first, second))
            self.assertIs(alike(second, first), expected, (first, second))
        self.assertGreater(min(counts.values()), 100)

    def test_deep_terms(self):
        first, second = deep_term(X, 120), deep_term(X, 120)
        self.assertIs(alike(first, second), True)
        self.assertIs(alike(first, deep_term(Y, 120)), False)
        self.assertIs(alike(first, deep_term(X, 119)), False)


if __name__ == "__main__":
    unittest.main()
