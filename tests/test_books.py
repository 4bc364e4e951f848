import random
import unittest

from books import book_of, error_of, made_anew, told_book, told_of, tree
from plain_check import INT
from usescale.errors import MixedScales, NameMissing, OutOfMoves, Refused, UnboundName, UsescaleError
from usescale.families import CutScale, LevelScale, PairScale
from usescale.labels import read_scale
from usescale.maps import CountMap, HalfMap, ScaleMap
from usescale.reader import read_kind, read_term
from usescale.tallies import ExactTally, LeastTally, MostTally
from usescale.workbook import Workbook

INC = "(fn x 1 int (add x 1))"


class RunTest(unittest.TestCase):
    def fails(self, book, text, values, *wanted):
        before = told_book(book)
        self.assertEqual(told_of(error_of(lambda: book.run(text, *values))), list(wanted))
        self.assertEqual(told_book(book), before)

    def test_programs_with_mentions(self):
        book = book_of(inc=INC, two="(call inc 1)")
        self.assertEqual(book.run("(program (inputs) two)"), 2)
        self.assertEqual(book.run(" (program  (inputs (a 1) (b 9)) (call inc (sub a (mul b two)) ))", 10, 3), 5)
        text = "(program (inputs (a 1)) (call (fn two 1 int (add two a)) two))"
        self.assertEqual(book.run(text, 10 ** 70), 10 ** 70 + 2)
        self.assertEqual(Workbook(ExactTally()).run("(program (inputs (a 1) (b 1)) (sub a b))", 3, 5), -2)

    def test_inputs_hide_definitions(self):
        book = book_of(a="(pair 1 2)", b="7", c="(add b b)")
        self.assertEqual(book.run("(program (inputs (a 1)) (add a b))", 5), 12)
        self.assertEqual(book.run("(program (inputs (b 1)) (add b c))", 1), 15)
        self.assertEqual(book.run("(program (inputs (b 1) (a 1)) (split a b (pair a b) (sub a b)))", 1, 5), 4)
        self.assertEqual(book.run("(program (inputs (q 0)) (split x y a (add x y)))", 1), 3)

    def test_errors_of_reading_and_checking_are_raised_as_they_are(self):
        book = book_of(p="(pair 1 2)")
        for text, wanted in (
                ("", ("BadText", {"at": 0})), ("3", ("BadText", {"at": 0})),
                ("(program (inputs) 3) 4", ("BadText", {"at": 21})),
                ("(program (inputs (add 1)) 3)", ("BadText", {"at": 18})),
                ("(program (inputs) q)", ("UnboundName", {"name": "q"})),
                ("(program (inputs) p)", ("KindClash", {"wanted": INT, "found": ("pair", INT, INT)})),
                ("(program (inputs (a 1) (a 1)) 3)", ("TwiceBound", {"name": "a"})),
                ("(program (inputs (a zz)) 3)", ("UnknownGrade", {"name": "zz"})),
                ("(program (inputs (a 1)) (add a a))", ("Overuse", {"name": "a", "used": "2", "allowed": "1"}))):
            for values in ((), (1,), (1, 2, 3)):
                self.fails(book, text, values, wanted)

    def test_the_number_of_values(self):
        for text, wanted in (("(program (inputs) 3)", 0), ("(program (inputs (a 1)) a)", 1),
                             ("(program (inputs (a 1) (b 0)) a)", 2)):
            for found in range(5):
                if found == wanted:
                    self.assertEqual(book_of().run(text, *[3] * found), 3)
                    continue
                self.fails(book_of(), text, [3] * found, ("WrongCount", {"wanted": wanted, "found": found}))

    def test_the_limit_of_moves(self):
        book = book_of(ExactTally(), turns="(fn n 1 int (repeat n x 1 0 (add x 1)))")
        text = "(program (inputs (a 1)) (call turns a))"
        # The call, the two looks at the number, and for each turn but the last one a look.
        needed = 3 + 2 * 9 + 1
        book.set_limit(needed)
        self.assertEqual(book.run(text, 9), 9)
        book.set_limit(needed - 1)
        self.fails(book, text, [9], ("OutOfMoves", {"bound": needed - 1}))
        self.fails(book, text, [], ("WrongCount", {"wanted": 1, "found": 0}))
        book.set_limit(5000)
        self.assertEqual(book.run(text, 2498), 2498)
        self.assertIsInstance(error_of(lambda: book.run(text, 2499)), OutOfMoves)
        book.set_limit(1)
        self.assertEqual(book.run("(program (inputs (a 1)) a)", 4), 4)
        self.fails(book, "(program (inputs (a 2)) (add a a))", [4], ("OutOfMoves", {"bound": 1}))

    def test_values_are_not_changed(self):
        values = [3, 4]
        book_of().run("(program (inputs (a 1) (b 1)) (add a b))", *values)
        self.assertEqual(values, [3, 4])


class JoinedTest(unittest.TestCase):
    def joins(self, book, other):
        """The other book's definitions, one after the other."""
        wanted = made_anew(book)
        for name in other.names():
            wanted[name] = other[name]
        before, held = told_book(other), book
        book += other
        self.assertIs(book, held)
        self.assertEqual(told_book(book), told_book(wanted))
        if other is not book:
            self.assertEqual(told_book(other), before)

    def test_new_and_known_names(self):
        self.joins(book_of(), book_of())
        self.joins(book_of(a="1"), book_of())
        self.joins(book_of(), book_of(a="  1", b="(add a a)"))
        self.joins(book_of(a="1", b="(add a a)", c="b"), book_of(d="5", a="(add 1 1)", e="(mul d a)"))
        book = book_of(limit=7, a="1", b="a")
        book += book_of(limit=9, c="2", a="3")
        self.assertEqual((book.names(), book.limit, book.term_of("b")), (["a", "b", "c"], 7, ("int", 3)))

    def test_the_book_itself(self):
        book = book_of(a=" 1", b="(add a a)", c="(fn a 1 int b)")
        before = told_book(book)
        self.joins(book, book)
        self.assertEqual(told_book(book), before)

    def test_a_scale_that_is_made_anew(self):
        for scale in (ExactTally(), PairScale(LevelScale(2), MostTally())):
            book = book_of(scale, a="1")
            book += book_of(read_scale(scale.label), b="2")
            self.assertEqual(book.names(), ["a", "b"])
            self.assertIs(book.scale, scale)

    def test_another_scale(self):
        book = book_of(a="1")
        before = told_book(book)
        for scale in (ExactTally(), LeastTally(), LevelScale(2)):
            with self.assertRaises(MixedScales):
                book += Workbook(scale)
            self.assertEqual(told_book(book), before)
        with self.assertRaises(TypeError):
            book += {"a": "1"}

    def test_all_or_none(self):
        for book, other, wanted in (
                (book_of(a="1", b="(add a 1)"), book_of(c="3", a="(pair 1 2)", d="4"),
                 [("Refused", {"name": "b"}), ("KindClash", {"wanted": INT, "found": ("pair", INT, INT)})]),
                (book_of(y="1", a="2"), book_of(c="1", a="c"),
                 [("Refused", {"name": "a"}), ("UnboundName", {"name": "c"})]),
                (book_of(a="1", b=f"(add a {tree(300)})"), book_of(z="1", a=tree(250)),
                 [("Refused", {"name": "b"}), ("TooLarge", {"size": 499 + 599 + 1})])):
            before, held = (told_book(book), told_book(other)), book
            try:
                book += other
            except UsescaleError as error:
                self.assertEqual(told_of(error), wanted)
            else:
                self.fail("nothing was raised")
            self.assertIs(book, held)
            self.assertEqual((told_book(book), told_book(other)), before)


class CarryTest(unittest.TestCase):
    def test_texts_become_the_written_forms_of_the_carried_terms(self):
        book = book_of(ExactTally(), limit=9, a="  7", d="(fn  x 2 int (add x(mul x a)))", e=" ( box 3 (call d a ))",
                       f="(as (fun 2 int int) (fn x ? int (add x x)))")
        scale = CutScale(2, order="up")
        self.assertIsNone(book.carry(CountMap(scale)))
        self.assertEqual(told_book(book), told_book(book_of(
            scale, limit=9, a="7", d="(fn x many int (add x (mul x a)))", e="(box many (call d a))",
            f="(as (fun many int int) (fn x ? int (add x x)))")))
        self.assertIs(book.scale, scale)
        self.assertEqual(book.kind_of("e"), read_kind("(box many int)"))
        self.assertEqual(book.run("(program (inputs) (call d a))"), 56)
        book["a"] = "8"
        self.assertEqual(book.term_of("e")[2][2], ("int", 8))

    def test_halves_and_scale_maps(self):
        scale = PairScale(LevelScale(3), MostTally())
        for side, text, label in (("left", "(box 1 a)", "(levels 3)"), ("right", "(box 5 a)", "(tally up)")):
            book = book_of(scale, a="3", b="(box  <1/5>  a)")
            book.carry(HalfMap(read_scale(scale.label), side))
            self.assertEqual((book["b"], book.scale.label), (text, label))
        book = book_of(LevelScale(3), b="(box 1 4)")
        book.carry(ScaleMap(LevelScale(3), LevelScale(2), ["0", "1", "1"]))
        book.carry(ScaleMap.same(LevelScale(2)))
        self.assertEqual(told_book(book), told_book(book_of(LevelScale(2), b="(box 1 4)")))

    def test_books_without_definitions(self):
        book = book_of(ExactTally())
        book.carry(CountMap(LevelScale(2)))
        self.assertEqual(told_book(book), told_book(book_of(LevelScale(2))))

    def test_maps_of_other_scales(self):
        book = book_of(MostTally(), a="1")
        before = told_book(book)
        for m in (CountMap(MostTally()), ScaleMap.same(LevelScale(2)),
                  HalfMap(PairScale(MostTally(), LevelScale(2)), "left")):
            with self.assertRaises(MixedScales):
                book.carry(m)
            self.assertEqual(told_book(book), before)

    def test_all_or_none(self):
        scale = LevelScale(3)
        book = book_of(scale, a="(box 2 1)", f="(fn x 2 int x)", g="(fn y 1 (box 2 int) 5)", c="(call g a)",
                       h="(fn x 2 int (add x x))")
        before = told_book(book)
        error = error_of(lambda: book.carry(ScaleMap(scale, scale, ["0", "2", "1"])))
        self.assertEqual(told_of(error), [("Refused", {"name": "f"}),
                                          ("Overuse", {"name": "x", "used": "2", "allowed": "1"})])
        self.assertEqual(told_book(book), before)
        error = error_of(lambda: book.carry(ScaleMap(scale, ExactTally(), ["0", "3", "1"])))
        self.assertEqual(told_of(error), [("Refused", {"name": "g"}),
                                          ("Overuse", {"name": "y", "used": "0", "allowed": "3"})])
        self.assertIsInstance(error, Refused)
        self.assertEqual((told_book(book), book.scale), (before, scale))
        book["f"] = "1"
        error = error_of(lambda: book.carry(ScaleMap(scale, ExactTally(), ["0", "0", "1"])))
        self.assertEqual(told_of(error), [("Refused", {"name": "h"}),
                                          ("Overuse", {"name": "x", "used": "2", "allowed": "1"})])

    def test_mentions_stay_mentions(self):
        book = book_of(ExactTally(), a="(box 2 5)", b="(unbox a a (add a a))", c="(add b (call (fn b 1 int b) 1))")
        book.carry(CountMap(MostTally()))
        self.assertEqual(book["b"], "(unbox a a (add a a))")
        self.assertEqual(told_of(error_of(lambda: book.drop("b"))), [("InUse", {"name": "b", "users": ["c"]})])
        book["a"] = "(box 3 6)"
        self.assertEqual(book.term_of("b"), read_term("(unbox a (box 3 6) (add a a))"))


class AttemptTest(unittest.TestCase):
    def test_what_the_action_returns(self):
        book = book_of(a="1")
        for value in (None, 3, "x", [1], book):
            self.assertIs(book.attempt(lambda held: value), value)
        self.assertIs(book.attempt(lambda held: held), book)

        def act(held):
            held["b"] = "(add a a)"
            held.set_limit(5)
            return held.run("(program (inputs) b)")

        self.assertEqual(book.attempt(act), 2)
        self.assertEqual((book.names(), book.limit), (["a", "b"], 5))

    def test_errors_of_the_package_and_others(self):
        class Other(Exception):
            pass

        class Harsh(BaseException):
            pass

        for raised in (Other("q"), KeyError("k"), UnboundName("n"), StopIteration(), Harsh(), GeneratorExit()):
            book = book_of(a=" 1", b="(add a a)", limit=11)
            before, scale = told_book(book), book.scale

            def act(held):
                held["a"] = "2"
                held["c"] = "3"
                held.drop("b")
                held.set_limit(3)
                held.carry(ScaleMap(LevelScale(2), LevelScale(3), ["0", "2"])) if held.scale.size else None
                held += book_of(d="4")
                raise raised

            with self.assertRaises(type(raised)) as caught:
                book.attempt(act)
            self.assertIs(caught.exception, raised)
            self.assertEqual(told_book(book), before)
            self.assertIs(book.scale, scale)

    def test_the_scale_is_as_before(self):
        scale = ExactTally()
        book = book_of(scale, a="(box  2 1)", limit=11)
        before = told_book(book)

        def act(held):
            held.carry(CountMap(LevelScale(2)))
            self.assertEqual((held.scale.label, held["a"]), ("(levels 2)", "(box 1 1)"))
            held["b"] = "q"

        error = error_of(lambda: book.attempt(act))
        self.assertEqual(told_of(error), [("Refused", {"name": "b"}), ("UnboundName", {"name": "q"})])
        self.assertEqual(told_book(book), before)
        self.assertIs(book.scale, scale)
        book["b"] = "(unbox x a (add x x))"
        self.assertEqual(book.run("(program (inputs) b)"), 2)

    def test_errors_inside_that_do_not_leave_the_action(self):
        book = book_of(a="1")

        def act(held):
            held["b"] = "2"
            try:
                held["c"] = "q"
            except Refused:
                held["c"] = "3"
            return held.names()

        self.assertEqual(book.attempt(act), ["a", "b", "c"])
        self.assertEqual(book.names(), ["a", "b", "c"])

    def test_nested_attempts(self):
        book = book_of(a="1")

        def inner(held):
            held["c"] = "3"
            held.set_limit(4)
            raise ZeroDivisionError

        def outer(held):
            held["b"] = "2"
            held.set_limit(3)
            try:
                held.attempt(inner)
            except ZeroDivisionError:
                pass
            self.assertEqual(("c" in held, held.limit), (False, 3))
            held.attempt(lambda deep: deep.__setitem__("d", "(add a b)"))
            return held.run("(program (inputs) d)")

        self.assertEqual(book.attempt(outer), 3)
        self.assertEqual((book.names(), book.limit), (["a", "b", "d"], 3))

        def failing(held):
            held.attempt(outer)
            held["e"] = "d"
            held.attempt(inner)

        before = told_book(book)
        with self.assertRaises(ZeroDivisionError):
            book.attempt(failing)
        self.assertEqual(told_book(book), before)

    def test_a_refused_action_without_changes(self):
        book = book_of(a="1")
        before = told_book(book)
        error = error_of(lambda: book.attempt(lambda held: held["q"]))
        self.assertEqual(told_of(error), [("Undefined", {"name": "q"})])
        self.assertEqual(told_book(book), before)


class RowTest(unittest.TestCase):
    """Point 52."""

    TEXTS = ("1", " 2", "(add a b)", "(add  a 1)", "(pair a b)", "(fn x {g} int (add x a))", "(call c a)", "(call a b)",
             "(fn x ? int x)", "(split a b d (add a b))", "(box {g} a)", "(unbox x b (add x x))", "(unbox a c a)",
             "(add 1", "q", "(test a b 2)", "(left int a)", "(as (fun {g} int int) (fn y ? int y))", "(box zz 1)",
             "(case (left int a) b b c c)", "(repeat b a ? d (add a 1))", "(call (fn d {g} int (mul d d)) c)",
             tree(251, "a"))

    def test_rows_of_calls(self):
        source = random.Random(9)
        done, refused = {}, {}
        for _ in range(60):
            scale = source.choice((ExactTally(), MostTally(), PairScale(MostTally(), LevelScale(3)), LevelScale(3)))
            book = Workbook(scale, source.choice((50, 2000)))
            for _ in range(25):
                word, act = self.some_act(source, book)
                before = told_book(book)
                try:
                    act(book)
                    done[word] = done.get(word, 0) + 1
                except (UsescaleError, NameMissing, ZeroDivisionError):
                    refused[word] = refused.get(word, 0) + 1
                    self.assertEqual(told_book(book), before)
                self.assertEqual(told_book(book), told_book(made_anew(book)))
                self.same_answers(source, book, made_anew(book))
        for word in ("define", "drop", "join", "carry", "attempt", "run", "limit"):
            self.assertGreater(done[word], 10, (word, done))
            self.assertGreater(refused[word], 4, (word, refused))

    def same_answers(self, source, book, other):
        names = book.names()
        if not names:
            return
        name = source.choice(names)
        for act in (lambda held: held.run(f"(program (inputs) {name})"), lambda held: held.drop(name)):
            self.assertEqual(self.outcome(act, book), self.outcome(act, other))

    def outcome(self, act, book):
        """What a call gives or raises, and what the book tells then; the book stays as it is."""
        found = []

        def tried(held):
            try:
                found.append(act(held))
            except (UsescaleError, NameMissing) as error:
                found.append(told_of(error))
            found.append(told_book(held))
            raise ZeroDivisionError

        with self.assertRaises(ZeroDivisionError):
            book.attempt(tried)
        return found

    def grade(self, source, scale):
        if scale.size is not None:
            return source.choice([scale.name_at(place) for place in scale.places()])
        return source.choice(("0", "1", "2", "9") if scale.label.startswith("(tally") else ("<1/2>", "<0/0>", "<9/1>"))

    def text(self, source, scale):
        return source.choice(self.TEXTS).format(g=self.grade(source, scale))

    def some_act(self, source, book):
        name = source.choice("abcdefgh")
        text = self.text(source, book.scale)
        word = source.choice(("define",) * 9 + ("drop", "join", "carry", "attempt", "run", "limit"))
        if word == "define":
            return word, lambda held: held.__setitem__(name if source.random() < 0.95 else "add", text)
        if word == "drop":
            return word, lambda held: held.drop(name)
        if word == "limit":
            return word, lambda held: held.set_limit(source.choice((0, 1, 60, 5000, 5001)))
        if word == "run":
            return word, lambda held: held.run(f"(program (inputs) {source.choice((name, '(add a 1)', '3'))})")
        if word == "join":
            return word, lambda held: self.join(source, held)
        if word == "carry":
            return word, lambda held: held.carry(self.some_map(source, held.scale))
        return word, lambda held: self.attempt(source, held, name, text)

    def join(self, source, book):
        if source.random() < 0.3:
            book += book
            return
        other = Workbook(book.scale if source.random() < 0.9 else CutScale(1))
        for name in "abc":
            text = self.text(source, other.scale) if source.random() < 0.5 else "4"
            try:
                other[name] = text
            except Refused:
                other[name] = "(add 3  3)"
        book += other

    def some_map(self, source, scale):
        if scale.label == "(tally same)":
            return CountMap(source.choice((MostTally(), LevelScale(3), ExactTally())))
        if scale.label.startswith("(pair"):
            return HalfMap(scale, source.choice(("left", "right")))
        if scale.size is not None:
            names = [scale.name_at(place) for place in scale.places()]
            return ScaleMap(scale, scale, source.choice((names, names[:1] + [names[-1]] * 2, [names[-1]] + names[1:])))
        return CountMap(scale)

    def attempt(self, source, book, name, text):
        def act(held):
            held.set_limit(77)
            held[name] = "(add 3  4)"
            if source.random() < 0.5:
                held[name] = text
            if source.random() < 0.3:
                held.carry(self.some_map(source, held.scale))
            if source.random() < 0.3:
                raise ZeroDivisionError
            held.set_limit(2000)

        book.attempt(act)


if __name__ == "__main__":
    unittest.main()
