import unittest

from books import book_of, error_of, made_anew, nested, told_book, told_of, tree
from plain_check import INT
from usescale.errors import (BadLimit, BadName, BookError, InUse, NameMissing, Refused, Undefined, UnboundName,
                             UsescaleError)
from usescale.families import LevelScale
from usescale.reader import read_kind, read_term
from usescale.tallies import ExactTally, MostTally
from usescale.terms import alike, term_depth, term_size
from usescale.workbook import Workbook

LONG = 10 ** 59


class DefinitionTest(unittest.TestCase):
    def test_a_new_book(self):
        scale = ExactTally()
        book = Workbook(scale)
        self.assertIs(book.scale, scale)
        self.assertEqual((book.limit, len(book), book.names(), "a" in book), (2000, 0, [], False))
        self.assertEqual(Workbook(scale, 7).limit, 7)
        self.assertEqual(Workbook(scale, limit=5000).limit, 5000)

    def test_definitions_that_mention_earlier_ones(self):
        book = book_of(one="1", two="(add one one)", inc="(fn x 1 int (add x one))",
                       pair2="(pair (call inc two) inc)")
        self.assertEqual(book.names(), ["one", "two", "inc", "pair2"])
        self.assertEqual((len(book), "two" in book, "three" in book, "" in book), (4, True, False, False))
        self.assertEqual([book.kind_of(name) for name in ("one", "inc")], [INT, read_kind("(fun 1 int int)")])
        self.assertEqual(book.kind_of("pair2"), read_kind("(pair int (fun 1 int int))"))
        self.assertEqual(book.term_of("one"), ("int", 1))
        self.assertEqual(book.term_of("two"), read_term("(add 1 1)"))
        inc = "(fn x 1 int (add x 1))"
        self.assertTrue(alike(book.term_of("pair2"), read_term(f"(pair (call {inc} (add 1 1)) {inc})")))

    def test_texts_stay_as_they_were_given(self):
        texts = {"a": "  1", "b": "(add   a a )", "c": "( fn a 1   int(add a b))", "d": "7   "}
        book = book_of(**texts)
        self.assertEqual({name: book[name] for name in book.names()}, texts)

    def test_binders_with_names_of_definitions(self):
        book = book_of(x="5", y="7", f="(fn x 1 int (add x y))", s="(split y z (pair x y) (add y z))",
                       c="(case (left int x) x x y (add x y))", r="(repeat y x 1 x (add x y))",
                       u="(unbox x (box 2 x) (add x x))")
        for name, text in (("f", "(fn x 1 int (add x 7))"), ("s", "(split y z (pair 5 7) (add y z))"),
                           ("c", "(case (left int 5) x x y (add 5 y))"), ("r", "(repeat 7 x 1 5 (add x 7))"),
                           ("u", "(unbox x (box 2 5) (add x x))")):
            self.assertTrue(alike(book.term_of(name), read_term(text)), name)
        self.assertEqual(told_of(error_of(lambda: book.drop("x"))),
                         [("InUse", {"name": "x", "users": ["s", "c", "r", "u"]})])

    def test_gaps(self):
        book = book_of(f="(as (fun 3 int int) (fn x ? int (add x x)))", n="(call f (call (fn y ? int y) 1))")
        self.assertEqual(book.kind_of("f"), read_kind("(fun 3 int int)"))
        self.assertEqual(book.term_of("n"), read_term(f"(call {book['f']} (call (fn y ? int y) 1))"))

    def test_a_mention_may_fill_a_place_that_allows_a_gap(self):
        error = error_of(lambda: book_of(f="(fn x ? int x)"))
        self.assertEqual(told_of(error), [("Refused", {"name": "f"}), ("LooseGap", {"name": "x"})])

    def test_redefinitions_stay_in_their_place(self):
        book = book_of(a="1", b="(add a 1)", c="(pair a b)", d="4")
        book["a"] = "(add 5  6)"
        self.assertEqual((book.names(), book["a"]), (["a", "b", "c", "d"], "(add 5  6)"))
        self.assertEqual(book.term_of("c"), read_term("(pair (add 5 6) (add (add 5 6) 1))"))
        book["d"] = "c"
        book["b"] = "(pair 1 2)"
        self.assertEqual((book.kind_of("d"), book.term_of("d")),
                         (read_kind("(pair int (pair int int))"), read_term("(pair (add 5 6) (pair 1 2))")))
        self.assertEqual(told_book(book), told_book(made_anew(book)))
        book["b"] = book["b"]
        self.assertEqual(told_book(book), told_book(made_anew(book)))

    def test_undefined_names(self):
        book = book_of(a="1")
        for name in ("b", "", "add", "A", "aa"):
            for act in (lambda: book[name], lambda: book.kind_of(name), lambda: book.term_of(name),
                        lambda: book.drop(name)):
                error = error_of(act)
                self.assertEqual(told_of(error), [("Undefined", {"name": name})])
                self.assertIsInstance(error, NameMissing)
                self.assertNotIsInstance(error, UsescaleError)

    def test_a_book_is_not_iterated_over(self):
        with self.assertRaises(TypeError):
            list(book_of(a="1"))

    def test_lists_belong_to_the_caller(self):
        book = book_of(a="1", b="a")
        book.names().clear()
        self.assertEqual(book.names(), ["a", "b"])
        error_of(lambda: book.drop("a")).users.append("q")
        self.assertEqual(error_of(lambda: book.drop("a")).users, ["b"])


class RefusedTest(unittest.TestCase):
    def refuses(self, book, name, text, *wanted):
        """The definition raises these errors, the second one being the cause of the first; the book stays."""
        before = told_book(book)
        error = error_of(lambda: book.__setitem__(name, text))
        self.assertEqual(told_of(error), list(wanted))
        self.assertIsInstance(error, BookError)
        self.assertEqual(told_book(book), before)

    def refused(self, name):
        return ("Refused", {"name": name})

    def test_bad_names_come_first(self):
        book = book_of(a="1")
        for name in ("", "1a", "A", "a_b", "a b", "abcdefghijklm", "add", "int", "program", "unbox", "?", "a-"):
            for text in ("2", "((", "zz", tree(501)):
                self.refuses(book, name, text, ("BadName", {"name": name}))
        book["abcdefghijkl"] = "2"
        book["adds"] = "a"
        self.assertEqual(book.names(), ["a", "abcdefghijkl", "adds"])
        self.assertIsInstance(error_of(lambda: book.__setitem__("", "1")), BadName)

    def test_errors_of_reading(self):
        for text, at in (("", 0), ("(add 1", 6), ("1 2", 2), ("(add 1 x y)", 9), ("(fun 1 int int)", 1), ("?", 0)):
            self.refuses(book_of(x="1"), "b", text, self.refused("b"), ("BadText", {"at": at}))
            self.refuses(book_of(b="1"), "b", text, self.refused("b"), ("BadText", {"at": at}))

    def test_errors_of_checking(self):
        for text, wanted in (
                ("q", ("UnboundName", {"name": "q"})), ("(add a q)", ("UnboundName", {"name": "q"})),
                ("(box zz 1)", ("UnknownGrade", {"name": "zz"})), ("(gone int)", ("GoneTerm", {})),
                ("(fn x ? int x)", ("LooseGap", {"name": "x"})),
                ("(fn x 1 int (add x x))", ("Overuse", {"name": "x", "used": "2", "allowed": "1"})),
                ("(call a 1)", ("WrongForm", {"word": "fun", "found": INT})),
                ("(add p 1)", ("KindClash", {"wanted": INT, "found": ("pair", INT, INT)})),
                ("(split x x p 1)", ("TwiceBound", {"name": "x"})),
                ("(fn x 9 int (repeat 1 y 1 0 (add x y)))", ("NoTurns", {"name": "x"}))):
            self.refuses(book_of(a="1", p="(pair 1 2)"), "b", text, self.refused("b"), wanted)
        self.refuses(book_of(ExactTally()), "b", "(fn x 1 int (test 1 x 2))", self.refused("b"),
                     ("NoBound", {"name": "x", "first": "1", "second": "0"}))

    def test_only_earlier_definitions_can_be_mentioned(self):
        book = book_of(a="1", b="2", c="3")
        self.refuses(book, "b", "c", self.refused("b"), ("UnboundName", {"name": "c"}))
        self.refuses(book, "b", "b", self.refused("b"), ("UnboundName", {"name": "b"}))
        self.refuses(book, "d", "d", self.refused("d"), ("UnboundName", {"name": "d"}))
        book["b"] = "(add a a)"
        book["c"] = "b"
        self.assertEqual(book.term_of("c"), read_term("(add 1 1)"))

    def test_redefinitions_that_break_later_ones(self):
        book = book_of(a="1", b="(add a 1)", c="(fn x 1 int a)", d="(add b (call c 2))")
        wanted = ("KindClash", {"wanted": INT, "found": ("pair", INT, INT)})
        self.refuses(book, "a", "(pair 1 2)", self.refused("b"), wanted)
        self.refuses(book, "b", "(pair 1 2)", self.refused("d"), wanted)
        self.refuses(book, "c", "(box 2 1)", self.refused("d"),
                     ("WrongForm", {"word": "fun", "found": ("box", "2", INT)}))
        self.refuses(book, "a", "(pair 1 q)", self.refused("a"), ("UnboundName", {"name": "q"}))
        self.refuses(book, "a", "(pair 1", self.refused("a"), ("BadText", {"at": 7}))
        book["c"] = "(fn y 5 int (add y y))"
        self.assertEqual(book.term_of("d"), read_term("(add (add 1 1) (call (fn y 5 int (add y y)) 2))"))

    def test_refused_is_raised_from_the_error(self):
        error = error_of(lambda: book_of(a="q"))
        self.assertIsInstance(error, Refused)
        self.assertIsInstance(error.__cause__, UnboundName)


class LargeTest(unittest.TestCase):
    def refuses(self, book, name, text, where, size):
        before = told_book(book)
        error = error_of(lambda: book.__setitem__(name, text))
        self.assertEqual(told_of(error), [("Refused", {"name": where}), ("TooLarge", {"size": size})])
        self.assertEqual(told_book(book), before)

    def test_the_size(self):
        book = book_of(a=tree(500), b=f"(as int {tree(500)})")
        self.assertEqual([term_size(book.term_of(name)) for name in "ab"], [999, 1000])
        self.refuses(book, "c", tree(501), "c", 1001)
        self.refuses(book, "c", "(as int b)", "c", 1001)
        self.refuses(book, "c", "(add a b)", "c", 2000)
        self.refuses(book, "a", f"(as int (as int {tree(500)}))", "a", 1001)
        book["c"] = "b"
        self.assertEqual(term_size(book.term_of("c")), 1000)

    def test_the_size_with_mentions_put_in(self):
        book = book_of(a=tree(100), b="(add a (add a (add a (add a a))))")
        self.assertEqual(term_size(book.term_of("b")), 5 * 199 + 4)
        book["c"] = "(as int b)"
        self.refuses(book, "d", "(as int c)", "d", 1001)
        self.refuses(book, "d", "(add b 1)", "d", 1001)
        self.refuses(book, "d", "(add b b)", "d", 1999)
        self.refuses(book, "a", tree(101), "b", 5 * 201 + 4)
        self.refuses(book, "a", f"(as int {tree(100)})", "b", 1004)
        self.refuses(book, "b", "(as int (add a (add a (add a (add a a)))))", "c", 1001)

    def test_the_depth(self):
        book = book_of(a=nested(39, "1"), b=nested(20, "a"))
        self.assertEqual((term_depth(book.term_of("a")), term_depth(book.term_of("b"))), (40, 60))
        self.refuses(book, "c", "(as int b)", "c", 61)
        self.refuses(book, "c", "(add 1 (sub 2 b))", "c", 64)
        self.refuses(book, "b", nested(21, "a"), "b", 61)
        self.refuses(book, "a", nested(40, "1"), "b", 61)
        book["c"] = "(fn x 1 int x)"
        self.assertEqual(told_book(book), told_book(made_anew(book)))

    def test_it_comes_ahead_of_the_check_and_behind_reading(self):
        book = book_of(a=tree(400))
        self.refuses(book, "b", f"(add (add q a) {tree(101)})", "b", 799 + 201 + 3)
        self.refuses(book, "b", f"(add (box zz a) {tree(101)})", "b", 799 + 201 + 2)
        error = error_of(lambda: book.__setitem__("b", tree(501) + " 1"))
        self.assertEqual(told_of(error)[1][0], "BadText")

    def test_run(self):
        book = book_of(a=tree(400), b=nested(39, "1"), limit=50)
        self.assertEqual(book.run(f"(program (inputs) (add a {tree(100)}))"), 500)
        self.assertEqual(book.run(f"(program (inputs) {nested(20, 'b')})"), 1)
        for text, size in ((f"(program (inputs) (add a {tree(101)}))", 1001),
                           (f"(program (inputs) {nested(21, 'b')})", 61),
                           ("(program (inputs (x zz) (x 1)) (add q (add a a)))", 2 * 799 + 3)):
            self.assertEqual(told_of(error_of(lambda: book.run(text))), [("TooLarge", {"size": size})])


class DropTest(unittest.TestCase):
    def test_definitions_that_nothing_mentions(self):
        book = book_of(a="1", b="a", c="3", d="(fn a 1 int a)")
        book.drop("b")
        self.assertEqual((book.names(), "b" in book), (["a", "c", "d"], False))
        self.assertEqual(told_of(error_of(lambda: book.drop("b"))), [("Undefined", {"name": "b"})])
        book.drop("a")
        book.drop("c")
        self.assertEqual(told_book(book), told_book(book_of(d="(fn a 1 int a)")))
        book["a"] = "2"
        self.assertEqual(book.names(), ["d", "a"])
        self.assertIsNone(book.drop("d"))

    def test_users_in_the_order_of_the_row(self):
        book = book_of(z="1", y="z", x="(add y y)", w="(pair z (fn y 1 int y))", v="(split z q (pair z 2) (add z q))")
        for name, users in (("z", ["y", "w", "v"]), ("y", ["x"])):
            before = told_book(book)
            error = error_of(lambda: book.drop(name))
            self.assertIsInstance(error, InUse)
            self.assertEqual((error.name, error.users), (name, users))
            self.assertEqual(told_book(book), before)
        for name in "vwxyz":
            book.drop(name)
        self.assertEqual(len(book), 0)

    def test_a_redefinition_may_end_a_use(self):
        book = book_of(a="1", b="a")
        book["b"] = "2"
        book.drop("a")
        self.assertEqual(book.names(), ["b"])


class LimitTest(unittest.TestCase):
    def test_set_limit(self):
        book = book_of()
        self.assertEqual([book.set_limit(bound) for bound in (1, 5000, 17)], [2000, 1, 5000])
        self.assertEqual(book.limit, 17)
        for bound in (0, -1, 5001, LONG, -LONG, 10 ** 60 - 1):
            error = error_of(lambda: book.set_limit(bound))
            self.assertEqual((type(error), error.bound, book.limit), (BadLimit, bound, 17))
            self.assertEqual(error_of(lambda: Workbook(LevelScale(2), bound)).bound, bound)
            self.assertIsInstance(error_of(lambda: Workbook(LevelScale(2), limit=bound)), BadLimit)
        for bound in (1, 5000):
            self.assertEqual(Workbook(MostTally(), bound).limit, bound)

    def test_the_property(self):
        with self.assertRaises(AttributeError):
            book_of().limit = 5


if __name__ == "__main__":
    unittest.main()
