import itertools
import random
import unittest

from made_terms import Maker, checking_scales
from nameless import INT, deep_term, each_step, nameless, one_of_each, wild_terms
from runs import kinds_of, short_programs
from usescale.checker import check, check_program
from usescale.derivations import filled
from usescale.errors import NameMissing, NoRedex, OutOfMoves, UsescaleError
from usescale.forms import binder_positions, part_positions
from usescale.plain import run_plain
from usescale.reader import read_term
from usescale.rewriting import redexes, rewrite, rewrite_all
from usescale.tallies import ExactTally
from usescale.terms import alike, free_names, term_depth, term_parts
from usescale.writer import write_term

FORMS = {"call": ("fn",), "split": ("pair",), "case": ("left", "right"), "unbox": ("box",), "test": ("int",),
         "repeat": ("int",)}
LONG = 10 ** 29 + 3


def plain_redexes(term, place=()):
    """The places of the redexes in the words of points 37 and 38."""
    parts = term_parts(term)
    own = [place] if term[0] in FORMS and parts[0][0] in FORMS[term[0]] else []
    return own + [at for number, part in enumerate(parts) for at in plain_redexes(part, place + (number,))]


def apart(term, numbers, names):
    """The term with a name of its own for each binder; names holds the new names."""
    if term[0] == "name":
        return ("name", names.get(term[1], term[1]))
    row = list(term)
    for number, at in enumerate(part_positions(term)):
        inner = dict(names)
        for binder in binder_positions(term, number):
            row[binder] = f"q{next(numbers)}"
            inner[term[binder]] = row[binder]
        row[at] = apart(term[at], numbers, inner)
    return tuple(row)


def with_names(term, images):
    """The term with its names replaced, bound or not; no binder has the name of another."""
    if term[0] == "name":
        return images.get(term[1], term)
    row = list(term)
    for at in part_positions(term):
        row[at] = with_names(term[at], images)
    return tuple(row)


def contracted(term):
    """The term after the arrow in point 37. No two binders have the same name."""
    word = term[0]
    if word == "call":
        return with_names(term[1][4], {term[1][1]: term[2]})
    if word == "split":
        return with_names(term[4], {term[1]: term[3][1], term[2]: term[3][2]})
    if word == "case":
        at = 2 if term[1][0] == "left" else 4
        return with_names(term[at + 1], {term[at]: term[1][2]})
    if word == "unbox":
        return with_names(term[3], {term[1]: term[2][2]})
    number = term[1][1]
    if word == "test":
        return term[2] if number > 0 else term[3]
    if number <= 0:
        return term[4]
    return with_names(term[5], {term[2]: ("repeat", ("int", number - 1)) + term[2:]})


def plain_rewrite(term, place):
    """The term with the redex at a place rewritten, with a name of its own for each binder."""
    def inside(part, rest):
        if not rest:
            return contracted(part)
        row = list(part)
        at = part_positions(part)[rest[0]]
        row[at] = inside(part[at], rest[1:])
        return tuple(row)

    return inside(apart(term, itertools.count(), {}), place)


class RedexTest(unittest.TestCase):
    def places(self, text, *places):
        self.assertEqual(redexes(read_term(text)), list(places))

    def test_each_form(self):
        for text in ("(call (fn x 1 int x) a)", "(call (fn x ? int x) a)", "(split x y (pair a b) x)",
                     "(case (left int a) x x y y)", "(case (right int a) x x y y)", "(unbox x (box 1 a) x)",
                     "(test 1 a b)", "(test -1 a b)", "(repeat 0 x 1 a x)", "(repeat -5 x 1 a x)",
                     "(repeat 3 x ? a x)"):
            self.places(text, ())
            for number, part in enumerate(term_parts(read_term(text))):
                self.assertEqual(redexes(part), [], (text, number))

    def test_no_redexes(self):
        for text in ("3", "a", "(add 1 2)", "(call f a)", "(call (as (fun 1 int int) (fn x 1 int x)) a)",
                     "(split x y p x)", "(split x y (as (pair int int) (pair 1 2)) x)", "(case c x x y y)",
                     "(unbox x d x)", "(test a 1 2)", "(test (add 1 1) 1 2)", "(repeat a x 1 1 2)", "(fn x 1 int x)",
                     "(call (pair a b) c)", "(split x y (fn z 1 int z) x)", "(case (box 1 a) x x y y)",
                     "(unbox x (left int 1) x)", "(test (box 1 2) 1 2)", "(gone int)", "(box 1 (left int (pair 1 2)))"):
            self.places(text)
        for term in one_of_each().values():
            self.assertEqual(redexes(term), plain_redexes(term))

    def test_inside_other_terms(self):
        inner = read_term("(test 1 a b)")
        for step in each_step():
            term = step(inner)
            self.assertEqual(len(redexes(term)), 1 + (len(term_parts(term)[0]) == 2 and term[0] in ("test", "repeat")
                                                      and term[1][0] == "int"))
            self.assertEqual(redexes(term), plain_redexes(term))
            self.assertEqual(len(redexes(term)[-1]), 1)

    def test_a_term_before_its_parts_and_the_parts_from_left_to_right(self):
        self.places("(call (fn x 1 int (test 1 x 2)) (test 0 (test 1 3 4) 5))", (), (0, 0), (1,), (1, 1))
        self.places("(pair (add (test 1 2 3) (test 4 5 6)) (split x y (pair (test 1 1 1) 2) (test 7 x y)))",
                    (0, 0), (0, 1), (1,), (1, 0, 0), (1, 1))
        self.places("(repeat 2 x 1 (test 1 2 3) (case (left int (test 1 x 3)) u (test 1 u 1) v (test 1 v 1)))",
                    (), (1,), (2,), (2, 0, 0), (2, 1), (2, 2))

    def test_wild_terms(self):
        found = 0
        for term in wild_terms(2000, 7):
            self.assertEqual(redexes(term), plain_redexes(term))
            found += len(redexes(term))
        self.assertGreater(found, 200)
        deep = deep_term(read_term("(test 1 2 3)"), 90)
        self.assertEqual(redexes(deep), plain_redexes(deep))

    def test_the_list_belongs_to_the_caller(self):
        term = read_term("(test 1 (test 2 3 4) 5)")
        redexes(term).append((9,))
        self.assertEqual(redexes(term), [(), (1,)])


class RewriteTest(unittest.TestCase):
    def rewrites(self, text, wanted, place=()):
        term = read_term(text)
        self.assertEqual(write_term(rewrite(term, place)), wanted)
        self.assertEqual(term, read_term(text))

    def test_each_form(self):
        self.rewrites("(call (fn x 2 int (add x x)) (add a 1))", "(add (add a 1) (add a 1))")
        self.rewrites("(call (fn x ? int 7) (gone int))", "7")
        self.rewrites("(split x y (pair (add a 1) b) (sub y x))", "(sub b (add a 1))")
        self.rewrites("(split x y (pair y x) (sub y x))", "(sub x y)")
        self.rewrites("(split x x (pair 1 2) x)", "2")
        self.rewrites("(case (left int a) x (add x b) y (sub b y))", "(add a b)")
        self.rewrites("(case (right int a) x (add x b) y (sub b y))", "(sub b a)")
        self.rewrites("(unbox x (box 2 (add a 1)) (mul x x))", "(mul (add a 1) (add a 1))")

    def test_tests(self):
        for number in (1, 2, LONG):
            self.rewrites(f"(test {number} a b)", "a")
        for number in (0, -1, -LONG):
            self.rewrites(f"(test {number} a b)", "b")

    def test_repetitions(self):
        for number in (0, -1, -LONG):
            self.rewrites(f"(repeat {number} x 1 (add a 1) (sub x b))", "(add a 1)")
        for number in (1, 2, LONG):
            self.rewrites(f"(repeat {number} x 1 (add a 1) (sub x b))",
                          f"(sub (repeat {number - 1} x 1 (add a 1) (sub x b)) b)")
        self.rewrites("(repeat 1 x ? x (add x x))", "(add (repeat 0 x ? x (add x x)) (repeat 0 x ? x (add x x)))")
        self.rewrites("(repeat 5 x 0 a b)", "b")

    def test_inside_other_terms(self):
        inner = read_term("(call (fn x 1 int (add x 1)) a)")
        result = read_term("(add a 1)")
        for step in each_step():
            term = step(inner)
            number = [part == inner for part in term_parts(term)].index(True)
            self.assertEqual(rewrite(term, (number,)), step(result))
        term, wanted, place = inner, result, ()
        for step in each_step() * 3:
            term, wanted = step(term), step(wanted)
            place = ([part != ("name", "b") for part in term_parts(term)].index(True),) + place
        self.assertEqual(rewrite(term, place), wanted)

    def test_two_redexes_in_one_another(self):
        text = "(call (fn x 2 int (test 1 (add x x) 0)) (unbox y (box 1 a) y))"
        self.rewrites(text, "(test 1 (add (unbox y (box 1 a) y) (unbox y (box 1 a) y)) 0)")
        self.rewrites(text, "(call (fn x 2 int (add x x)) (unbox y (box 1 a) y))", (0, 0))
        self.rewrites(text, "(call (fn x 2 int (test 1 (add x x) 0)) a)", (1,))
        self.rewrites("(unbox x (box 1 (test 1 (test 0 1 2) 3)) x)", "(unbox x (box 1 (test 1 2 3)) x)", (0, 0, 1))

    def test_binders_that_would_bind_a_free_name(self):
        for text, wanted in (
                ("(call (fn x 1 int (fn y 1 int (add x y))) y)", "(fn q 1 int (add y q))"),
                ("(unbox x (box 1 y) (split y z p (add x (sub y z))))", "(split q z p (add y (sub q z)))"),
                ("(split x z (pair y b) (case c y (add x y) z (add x z)))", "(case c q (add y q) z (add y z))"),
                ("(case (left int (add y u)) x (repeat 1 y 1 x (unbox u y x)) v v)",
                 "(repeat 1 q 1 (add y u) (unbox r q (add y u)))"),
                ("(repeat 2 x 1 y (fn y 1 int (add x y)))",
                 "(fn q 1 int (add (repeat 1 x 1 y (fn y 1 int (add x y))) q))"),
                ("(call (fn x 1 int (fn x 1 int x)) y)", "(fn x 1 int x)")):
            found = rewrite(read_term(text), ())
            self.assertTrue(alike(found, read_term(wanted)), (text, write_term(found)))
        inner = rewrite(read_term("(fn y 1 int (call (fn x 1 int (fn y 1 int (add x y))) y))"), (0,))
        self.assertTrue(alike(inner, read_term("(fn y 1 int (fn z 1 int (add y z)))")))

    def test_wild_terms(self):
        rewritten = 0
        for term in wild_terms(3000, 7):
            for place in redexes(term):
                self.assertEqual(nameless(rewrite(term, place)), nameless(plain_rewrite(term, place)), (term, place))
                rewritten += 1
        self.assertGreater(rewritten, 300)

    def test_no_redex(self):
        term = read_term("(add (test 1 2 3) (call f a))")
        for place in ((), (1,), (1, 0), (1, 1), (0, 0), (0, 1), (2,), (-1,), (-2,), (10 ** 30,), (0, 3), (0, -3),
                      (0, 0, 0), (1, 0, 0, 5), (-2, 0), (1, 1, -1)):
            with self.assertRaises(NoRedex) as caught:
                rewrite(term, place)
            self.assertEqual(caught.exception.place, place)
        self.assertEqual(rewrite(term, (0,)), read_term("(add 2 (call f a))"))
        for term in one_of_each().values():
            for place in ((), (0,), (9,), (-1,)):
                with self.assertRaises(NoRedex):
                    rewrite(term, place)

    def test_the_places_without_a_redex_are_those_that_are_not_listed(self):
        source = random.Random(4)
        for term in wild_terms(400, 6, seed=3):
            listed = redexes(term)
            for _ in range(20):
                place = tuple(source.randint(-1, 2) for _ in range(source.randint(0, 4)))
                if place in listed:
                    rewrite(term, place)
                    continue
                with self.assertRaises(NoRedex):
                    rewrite(term, place)


class RewriteAllTest(unittest.TestCase):
    def test_until_there_is_none(self):
        for text, wanted, many in (
                ("a", "a", 0), ("(add 1 2)", "(add 1 2)", 0), ("(test 1 2 3)", "2", 1),
                ("(call (fn x 2 int (add x x)) (test 1 a b))", "(add a a)", 3),
                ("(split x y (pair (test 1 1 2) (test 0 1 2)) (pair y x))", "(pair 2 1)", 3),
                ("(repeat 3 x 1 a (add x 1))", "(add (add (add a 1) 1) 1)", 4),
                ("(repeat 2 x 2 a (add x x))", "(add (add a a) (add a a))", 7),
                ("(fn y 1 int (unbox x (box 1 y) x))", "(fn y 1 int y)", 1),
                ("(call (call (fn f 1 (fun 1 int int) f) (fn x 1 int (mul x x))) 3)", "(mul 3 3)", 2)):
            term = read_term(text)
            self.assertEqual(rewrite_all(term), (read_term(wanted), many), text)
            self.assertEqual(term, read_term(text))

    def test_the_first_redex_of_the_list_comes_first(self):
        for term in wild_terms(300, 6, seed=8):
            wanted = term
            for many in range(13):
                if not redexes(wanted):
                    self.assertEqual(rewrite_all(term, many), (wanted, many))
                    break
                with self.assertRaises(OutOfMoves):
                    rewrite_all(term, many)
                wanted = rewrite(wanted, redexes(wanted)[0])

    def test_the_limit(self):
        for text, many in (("(add a 1)", 0), ("(test 1 2 3)", 1), ("(repeat 3 x 1 a (add x 1))", 4),
                           ("(repeat 2 x 2 a (add x x))", 7)):
            term = read_term(text)
            for limit in (many, many + 1, 10 ** 9):
                self.assertEqual(rewrite_all(term, limit)[1], many)
            for limit in range(many):
                with self.assertRaises(OutOfMoves) as caught:
                    rewrite_all(term, limit=limit)
                self.assertEqual(caught.exception.bound, limit)

    def test_the_limit_when_none_is_told(self):
        for turns, enough in ((199, True), (200, False)):
            term = read_term(f"(repeat {turns} x 1 a (call (fn y 1 int y) 1))")
            self.assertEqual(rewrite_all(term), (("int", 1), 2))
            term = ("repeat", ("int", turns), "x", "1", ("name", "a"), ("name", "x"))
            if enough:
                self.assertEqual(rewrite_all(term), (("name", "a"), 200))
                continue
            with self.assertRaises(OutOfMoves) as caught:
                rewrite_all(term)
            self.assertEqual(caught.exception.bound, 200)

    def test_long_repetitions(self):
        term = read_term("(repeat 90 x 1 a (add x 1))")
        found, many = rewrite_all(term)
        self.assertEqual((many, term_depth(found), run_plain(found, {"a": 5})[0]), (91, 91, 95))
        with self.assertRaises(OutOfMoves):
            rewrite_all(read_term(f"(repeat {LONG} x 1 a x)"))
        with self.assertRaises(OutOfMoves):
            rewrite_all(read_term(f"(repeat {LONG} x 1 a (add x 1))"), 150)
        self.assertEqual(rewrite_all(read_term("(repeat 1500 x 1 a x)"), 1501), (("name", "a"), 1501))


class PromiseTest(unittest.TestCase):
    """Point 39."""

    def test_terms(self):
        rewritten, smaller, words = 0, 0, set()
        for scale in checking_scales():
            for seed in range(150):
                maker = Maker(scale, seed)
                context = {name: maker.kind(1) for name in ("a", "b", "x")}
                term = maker.term(maker.kind(2), context, 4)
                try:
                    former = check(scale, term, context)
                except (UsescaleError, NameMissing):
                    continue
                term = filled(former)
                for place in redexes(term):
                    found = check(scale, rewrite(term, place), context)
                    self.assertEqual(found.kind, former.kind)
                    self.assertTrue(found.usage <= former.usage, (scale.label, term, place))
                    rewritten += 1
                    smaller += found.usage != former.usage
                    words.add(self.word_at(term, place))
        self.assertEqual(words, set(FORMS))
        self.assertGreater(rewritten, 1000)
        self.assertGreater(smaller, 100)

    def word_at(self, term, place):
        for number in place:
            term = term_parts(term)[number]
        return term[0]

    def test_programs(self):
        fewer, rewritten = 0, 0
        for scale in checking_scales():
            for inputs, _, values, derivation in short_programs(scale, 60):
                term = filled(derivation)
                answer, looks, moves = run_plain(term, values)
                for place in redexes(term):
                    found = rewrite(term, place)
                    check_program(scale, inputs, found)
                    self.assertEqual(run_plain(found, values)[:2], (answer, looks), (scale.label, term, place))
                    self.assertLessEqual(len(run_plain(found, values)[2]), len(moves))
                    fewer += len(run_plain(found, values)[2]) < len(moves)
                    rewritten += 1
        self.assertGreater(rewritten, 500)
        self.assertGreater(fewer, 200)

    def test_all_rewritings_of_an_exact_tally(self):
        found = 0
        for inputs, _, values, derivation in short_programs(ExactTally(), 600):
            try:
                term, many = rewrite_all(filled(derivation), 60)
            except OutOfMoves:
                continue
            found += many > 0
            self.assertEqual(check(ExactTally(), term, kinds_of(inputs)).kind, INT)
            self.assertEqual(run_plain(term, values)[:2], run_plain(derivation.term, values)[:2])
            self.assertLessEqual(set(free_names(term)), set(free_names(derivation.term)))
        self.assertGreater(found, 50)


if __name__ == "__main__":
    unittest.main()
