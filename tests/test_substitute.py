import copy
import random
import unittest

from nameless import INT, binders_of, deep_term, free_in, nameless, wild_term, wild_terms, with_images
from usescale.names import is_name
from usescale.terms import alike, free_names, substitute

A, B, X, Y, Z = ("name", "a"), ("name", "b"), ("name", "x"), ("name", "y"), ("name", "z")


class SubstituteTest(unittest.TestCase):
    def check(self, term, images):
        """The result is what the nameless terms tell, and nothing that was handed in is changed."""
        before = copy.deepcopy((term, images))
        found = substitute(term, images)
        told = {name: nameless(images[name]) for name in images}
        self.assertEqual(nameless(found), with_images(nameless(term), told), (term, images, found))
        self.assertEqual((term, images), before)
        known = set(binders_of(term)) | {name for image in images.values() for name in binders_of(image)}
        for name in binders_of(found):
            self.assertTrue(name in known or is_name(name), name)
        return found

    def test_names(self):
        self.assertEqual(substitute(X, {"x": ("int", 3)}), ("int", 3))
        self.assertEqual(substitute(Y, {"x": ("int", 3)}), Y)
        self.assertEqual(substitute(("add", X, ("mul", X, Y)), {"x": A}), ("add", A, ("mul", A, Y)))

    def test_the_empty_dict_changes_nothing(self):
        for term in wild_terms(100) + [deep_term(X, 90)]:
            self.assertEqual(substitute(term, {}), term)

    def test_several_names_at_once(self):
        self.assertEqual(substitute(("sub", X, Y), {"x": Y, "y": X}), ("sub", Y, X))
        self.assertEqual(substitute(("sub", X, Y), {"x": ("add", Y, X), "y": ("int", 1)}),
                         ("sub", ("add", Y, X), ("int", 1)))
        self.assertEqual(substitute(("pair", X, ("pair", Y, Z)), {"x": Y, "y": Z, "z": X}),
                         ("pair", Y, ("pair", Z, X)))

    def test_inner_binders_hide_names(self):
        images = {"x": ("int", 1), "y": ("int", 2)}
        one, two = ("int", 1), ("int", 2)
        for term, wanted in (
                (("fn", "x", "1", INT, ("add", X, Y)), ("fn", "x", "1", INT, ("add", X, two))),
                (("split", "x", "y", X, ("add", X, Y)), ("split", "x", "y", one, ("add", X, Y))),
                (("split", "x", "x", Y, ("add", X, Y)), ("split", "x", "x", two, ("add", X, two))),
                (("case", X, "x", X, "y", X), ("case", one, "x", X, "y", one)),
                (("case", Y, "x", Y, "y", Y), ("case", two, "x", two, "y", Y)),
                (("unbox", "x", X, ("add", X, Y)), ("unbox", "x", one, ("add", X, two))),
                (("repeat", X, "x", "?", X, ("add", X, Y)), ("repeat", one, "x", "?", one, ("add", X, two)))):
            self.assertEqual(substitute(term, images), wanted)
        nested = ("fn", "y", "1", INT, ("add", X, ("fn", "x", "1", INT, ("add", X, Y))))
        self.assertEqual(substitute(nested, {"x": one}),
                         ("fn", "y", "1", INT, ("add", one, ("fn", "x", "1", INT, ("add", X, Y)))))

    def test_no_free_name_of_an_image_becomes_bound(self):
        image = ("add", Y, B)
        for term in (("fn", "y", "1", INT, ("add", X, Y)), ("split", "y", "z", X, ("add", X, ("sub", Y, Z))),
                     ("split", "z", "y", X, ("add", X, ("sub", Y, Z))), ("split", "y", "y", A, ("add", X, Y)),
                     ("split", "y", "b", A, ("add", X, ("sub", Y, B))),
                     ("case", X, "y", ("sub", X, Y), "z", X), ("case", A, "z", X, "y", ("sub", X, Y)),
                     ("unbox", "y", X, ("sub", X, Y)), ("repeat", X, "y", "1", X, ("sub", X, Y)),
                     ("fn", "b", "?", INT, ("fn", "y", "1", INT, ("add", X, ("sub", B, Y))))):
            found = self.check(term, {"x": image})
            self.assertLess({"b", "y"}, {"x"} | set(free_names(found)))
            self.assertNotIn("x", free_names(found))

    def test_only_binders_in_the_way_are_renamed(self):
        image = ("add", Y, B)
        for term in (("fn", "y", "1", INT, Y), ("fn", "y", "1", INT, ("fn", "x", "1", INT, X)),
                     ("fn", "z", "1", INT, ("add", X, Z)), ("split", "a", "z", X, ("add", A, Z)),
                     ("case", A, "y", Y, "z", X), ("unbox", "y", X, Y), ("repeat", X, "y", "1", X, Y)):
            self.assertEqual(binders_of(self.check(term, {"x": image})), binders_of(term), term)
        found = self.check(("split", "z", "y", A, ("add", X, ("sub", Y, Z))), {"x": image})
        self.assertEqual(found[1], "z")
        self.assertNotEqual(found[2], "y")

    def test_an_image_of_a_name_that_is_not_free_renames_nothing(self):
        term = ("fn", "y", "1", INT, ("add", Y, Z))
        self.assertEqual(substitute(term, {"x": Y}), term)

    def test_new_names_meet_no_other_free_name(self):
        image = Y
        names = [f"x{number}" for number in range(12)] + ["y", "y0", "y1", "yy", "v0", "n0", "z0", "a0"]
        body = X
        for name in names:
            body = ("add", body, ("name", name))
        for term in (("fn", "y", "1", INT, body), ("split", "y", "x12", A, ("add", body, ("name", "x12"))),
                     ("split", "x12", "y", A, body), ("unbox", "y", A, body),
                     ("fn", "y", "1", INT, ("fn", "x12", "1", INT, ("add", body, ("name", "x12"))))):
            found = self.check(term, {"x": image})
            self.assertLessEqual(set(free_names(term)) - {"x"}, set(free_names(found)))
        crowded = {"x": ("add", ("add", Y, ("name", "x0")), ("name", "x1"))}
        self.check(("fn", "y", "1", INT, ("fn", "x0", "1", INT, ("add", X, ("add", ("name", "x0"), Y)))), crowded)

    def test_names_of_12_characters(self):
        long, other = "a" * 12, "a" * 11 + "1"
        for term in (("fn", long, "1", INT, ("add", X, ("name", long))),
                     ("split", long, other, X, ("add", X, ("add", ("name", long), ("name", other))))):
            found = self.check(term, {"x": ("add", ("name", long), ("name", other))})
            for name in binders_of(found):
                self.assertTrue(is_name(name), name)
                self.assertNotIn(name, (long, other))

    def test_images_stay_whole(self):
        image = ("fn", "x", "1", INT, ("add", X, Y))
        self.assertEqual(substitute(("call", X, Y), {"x": image, "y": B}), ("call", image, B))

    def test_random_terms(self):
        source = random.Random(5)
        names = ("a", "b", "x", "y", "x0", "x1")
        renamed = 0
        for _ in range(1500):
            term = wild_term(source, source.randint(1, 6), names)
            images = {name: wild_term(source, source.randint(1, 3), names)
                      for name in source.sample(names, source.randint(0, 3))}
            found = self.check(term, images)
            kept = set(free_names(term)) - set(images)
            brought = set().union(*[free_in(nameless(images[name])) for name in set(free_names(term)) & set(images)])
            self.assertEqual(set(free_names(found)), kept | brought)
            renamed += not images == {} and not set(binders_of(found)) <= set(names)
        self.assertGreater(renamed, 20)

    def test_a_renamed_term_is_alike(self):
        for term in wild_terms(300, names=("a", "b", "x", "y")):
            there = self.check(term, {"a": ("name", "q")})
            if "q" not in binders_of(there):
                self.assertIs(alike(self.check(there, {"q": A}), term), True)

    def test_deep_terms(self):
        for times in (85, 100, 130):
            self.check(deep_term(("add", X, Z), times), {"z": ("add", X, Y), "b": X})


if __name__ == "__main__":
    unittest.main()
