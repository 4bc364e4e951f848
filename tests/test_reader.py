import random
import unittest

from nameless import INT, KINDS, one_of_each, text_of_each, wild_terms
from plain_read import WORDS, plain_failure, plain_tokens
from usescale.errors import BadText
from usescale.reader import read_kind, read_program, read_term
from usescale.writer import write_kind, write_program, write_term

READERS = {"k": read_kind, "t": read_term, "p": read_program}

# A text of each form; together they hold every place of every form.
TERM_TEXTS = (
    "12", "x", "(add a 1)", "(sub a 1)", "(mul a 1)", "(fn x g int a)", "(fn x ? (box 1 int) a)", "(call f a)",
    "(pair a b)", "(split x y e b)", "(left int a)", "(right (pair int int) a)", "(case e x a y b)", "(box 1 e)",
    "(unbox x e b)", "(test e a b)", "(repeat e x g z s)", "(repeat e x ? z s)", "(as int e)", "(gone int)",
    "(fn x <1/many> (fun 0 int (either int int)) (call (add x -7) (pair (gone int) y)))",
)
KIND_TEXTS = ("int", "(fun 1 int int)", "(pair int int)", "(either int int)", "(box <0/many> int)",
              "(fun 0to1 (pair int (box 1 int)) (either (fun 2 int int) int))")
PROGRAM_TEXTS = ("(program (inputs) 3)", "(program (inputs (x 1)) x)",
                 "(program (inputs (x <1/2>) (y many) (z 0)) (add x (mul y 2)))")
ALL_TEXTS = ([("t", text) for text in TERM_TEXTS] + [("k", text) for text in KIND_TEXTS]
             + [("p", text) for text in PROGRAM_TEXTS])

ODD_TOKENS = sorted(WORDS) + ["(", ")", "?", "x", "a1", "1a", "0", "-0", "00", "07", "-07", "-", "--1", "1", "-1", "+1",
                              "X", "aX", "<1/2>", "a<", "x_", "a" * 12, "a" * 13, "9" * 60, "9" * 61, "-" + "9" * 60,
                              "-" + "9" * 61, "x\t", "\t", "\n", "a\nb", "1\n", "\u00e9", "\u0661", "\u00b2", "??",
                              "?1",
                              "name", "true", "1.5", "x-1", "x,", "\"x\"", "\u00a0"]


class ReaderTest(unittest.TestCase):
    def fails_at(self, sort, text, at):
        with self.assertRaises(BadText, msg=(sort, text)) as caught:
            READERS[sort](text)
        self.assertEqual(caught.exception.at, at, (sort, text))

    def agrees(self, sort, text):
        """Reading fails where the plain reader says, or not at all."""
        at = plain_failure(text, sort)
        if at is None:
            READERS[sort](text)
        else:
            self.fails_at(sort, text, at)
        return at is None

    def test_every_form_of_kind(self):
        for text, kind in (("int", INT), ("(fun 1 int int)", ("fun", "1", INT, INT)),
                           ("(pair int (box <1/2> int))", ("pair", INT, ("box", "<1/2>", INT))),
                           ("(either (pair int int) int)", ("either", ("pair", INT, INT), INT)),
                           ("(box many int)", ("box", "many", INT))):
            self.assertEqual(read_kind(text), kind)

    def test_every_form_of_term(self):
        texts = text_of_each()
        for word, term in one_of_each().items():
            self.assertEqual(read_term(texts[word]), term)
        self.assertEqual(read_term("(fn x ? int x)"), ("fn", "x", "?", INT, ("name", "x")))
        self.assertEqual(read_term("(repeat 1 x ? 2 x)"), ("repeat", ("int", 1), "x", "?", ("int", 2), ("name", "x")))

    def test_programs(self):
        self.assertEqual(read_program("(program (inputs) 3)"), ([], ("int", 3)))
        self.assertEqual(read_program("(program (inputs (x 1) (y <0/2>) (x zz)) (add x y))"),
                         ([("x", "1"), ("y", "<0/2>"), ("x", "zz")], ("add", ("name", "x"), ("name", "y"))))
        inputs, _ = read_program("(program (inputs) 3)")
        inputs.append(("x", "1"))
        self.assertEqual(read_program("(program (inputs) 3)")[0], [])

    def test_integers(self):
        for text, number in (("0", 0), ("-1", -1), ("10", 10), ("9" * 60, 10 ** 60 - 1), ("-" + "9" * 60, 1 - 10 ** 60),
                             ("1" + "0" * 59, 10 ** 59)):
            self.assertEqual(read_term(text), ("int", number))
        for text in ("-0", "00", "01", "-01", "+1", "1" + "0" * 60, "-1" + "0" * 60, "1a", "--1", "-", "1_0", "\u0661"):
            self.fails_at("t", text, 0)
            self.fails_at("t", f"(add 1 {text})", 7)

    def test_names(self):
        for name in ("a", "z", "x1", "abcdefghijkl", "mnopqrstuvwx", "yz0123456789", "a0123456789b", "name", "term",
                     "grade", "many", "open"):
            self.assertEqual(read_term(name), ("name", name))
            self.assertEqual(read_term(f"(unbox {name} 1 2)")[1], name)
            self.assertEqual(read_program(f"(program (inputs ({name} 1)) 2)")[0], [(name, "1")])
        for name in sorted(WORDS) + ["abcdefghijklm", "1a", "A", "aB", "a_b", "a-b", "\u00e9", "?", "<", "a/b"]:
            self.fails_at("t", name, 0)
            self.fails_at("t", f"(unbox {name} 1 2)", 7)
            self.fails_at("p", f"(program (inputs ({name} 1)) 2)", 18)

    def test_grades(self):
        for grade in ("0", "many", "0to2", "<1/many>", "<<1/2>/x>", "007", "add", "x" * 200, "<", "/"):
            self.assertEqual(read_kind(f"(box {grade} int)")[1], grade)
            self.assertEqual(read_term(f"(box {grade} 1)")[1], grade)
            self.assertEqual(read_term(f"(fn x {grade} int 1)")[2], grade)
            self.assertEqual(read_term(f"(repeat 1 x {grade} 1 1)")[3], grade)
            self.assertEqual(read_program(f"(program (inputs (x {grade})) 1)")[0], [("x", grade)])
        for grade in ("A", "-1", "a_b", "1.", "?x", "a?", "\u00e9", "a\t", "[1]"):
            self.fails_at("k", f"(box {grade} int)", 5)
            self.fails_at("t", f"(fn x {grade} int 1)", 6)

    def test_where_a_gap_is_allowed(self):
        for sort, text, at in (("k", "(box ? int)", 5), ("k", "(fun ? int int)", 5), ("t", "(box ? 1)", 5),
                               ("t", "(fn x 1 (box ? int) 1)", 13), ("t", "(fn x ? (fun ? int int) 1)", 13),
                               ("t", "(left (box ? int) 1)", 11), ("p", "(program (inputs (x ?)) 1)", 20),
                               ("t", "?", 0), ("t", "(fn ? ? int 1)", 4), ("t", "(add ? 1)", 5),
                               ("t", "(fn x ?? int 1)", 6)):
            self.fails_at(sort, text, at)

    def test_blanks(self):
        source = random.Random(2)
        for sort, text in ALL_TEXTS:
            tokens = [token for token, _ in plain_tokens(text)]
            wanted = READERS[sort](text)
            for _ in range(20):
                spaced = " " * source.randint(0, 2)
                for at, token in enumerate(tokens):
                    glued = at == 0 or token in "()" or tokens[at - 1] in "()"
                    spaced += " " * source.randint(0 if glued else 1, 3) + token
                self.assertEqual(READERS[sort](spaced + " " * source.randint(0, 2)), wanted)
        self.assertEqual(read_term("(add(mul 1 2)x)"), read_term("  ( add  ( mul 1 2 )  x )  "))
        self.assertEqual(read_program("(program(inputs(x 1)(y 2))x)")[0], [("x", "1"), ("y", "2")])

    def test_other_signs_are_no_blanks(self):
        for sign in "\t\n\r\x0b\x0c\u00a0\u2003":
            for text in (f"{sign}1", f"1{sign}", f"1{sign}2"):
                self.fails_at("t", text, 0)
            self.fails_at("t", f"1 {sign}", 2)
            self.fails_at("t", f"(add{sign}1 2)", 1)
            self.fails_at("t", f"(add 1{sign}2)", 5)
            self.fails_at("t", f"(add 1 {sign} 2)", 7)
            self.fails_at("k", f"int{sign}", 0)
            self.fails_at("p", f"(program (inputs){sign}1)", 17)

    def test_texts_that_end_too_early(self):
        for sort, text in ALL_TEXTS:
            tokens = plain_tokens(text)
            for _, at in tokens:
                for early in (text[:at], text[:at] + "  ", text[:at].rstrip()):
                    self.fails_at(sort, early, len(early))
        for sort in READERS:
            for text in ("", " ", "    ", "(", " ( "):
                self.fails_at(sort, text, len(text))

    def test_tokens_behind_a_complete_text(self):
        for sort, text in ALL_TEXTS:
            for token in ODD_TOKENS:
                self.fails_at(sort, f"{text} {token}", len(text) + 1)
                self.fails_at(sort, f" {text}   {token} x", len(text) + 4)
            self.fails_at(sort, text + " (", len(text) + 1)
            if text.endswith(")"):
                self.fails_at(sort, text + ")", len(text))
                self.fails_at(sort, text + "x", len(text))

    def test_the_first_token_that_is_not_allowed(self):
        allowed = 0
        for sort, text in ALL_TEXTS:
            for token, at in plain_tokens(text):
                for odd in ODD_TOKENS:
                    changed = f"{text[:at]} {odd} {text[at + len(token):]}"
                    allowed += self.agrees(sort, changed)
                    self.agrees(sort, f"{text[:at]} {odd} {text[at:]}")
        self.assertGreater(allowed, 300)

    def test_other_sorts_of_text(self):
        for _, text in ALL_TEXTS:
            for sort in READERS:
                self.agrees(sort, text)

    def test_random_changes(self):
        source = random.Random(4)
        signs = "() -?<>/azX019\t" + "()" * 3
        for sort, text in ALL_TEXTS:
            for _ in range(150):
                changed = text
                for _ in range(source.randint(1, 4)):
                    at = source.randrange(len(changed) + 1)
                    changed = changed[:at] + source.choice(("", source.choice(signs))) + changed[at + 1:]
                self.agrees(sort, changed)

    def test_the_fortieth_and_the_forty_first_parenthesis(self):
        def nested(times):
            return "(box 1 " * times + "1" + ")" * times
        self.assertEqual(write_term(read_term(nested(40))), nested(40))
        self.fails_at("t", nested(41), 7 * 40)
        self.fails_at("t", nested(200), 7 * 40)
        self.fails_at("t", "(" * 41, 1)
        kind = "(box 1 " * 40 + "int" + ")" * 40
        self.assertEqual(write_kind(read_kind(kind)), kind)
        self.fails_at("k", f"(pair int {kind})", 10 + 7 * 39)
        inputs = "(program (inputs (x 1)) "
        self.assertEqual(read_program(inputs + nested(39) + ")")[1], read_term(nested(39)))
        self.fails_at("p", inputs + nested(40) + ")", len(inputs) + 7 * 39)
        self.fails_at("t", f"(fn x 1 {kind} 1)", 8 + 7 * 39)
        self.fails_at("t", f"(add 1 {nested(40)}", 7 + 7 * 39)
        self.fails_at("t", f"(add {nested(39)} {nested(40)})", len(f"(add {nested(39)} ") + 7 * 39)

    def test_many_parentheses(self):
        wide = "1"
        for _ in range(10):
            wide = f"(add {wide} {wide})"
        self.assertGreater(wide.count("("), 1000)
        self.assertEqual(write_term(read_term(wide)), wide)
        deep = wide
        for _ in range(30):
            deep = f"(sub {deep} 1)"
        self.assertEqual(write_term(read_term(deep)), deep)
        self.fails_at("t", f"(mul 2 {deep})", len("(mul 2 ") + len("(sub ") * 30 + len("(add ") * 9)
        self.fails_at("t", "(add " * 1500 + "1" + " 1)" * 1500, 200)
        self.fails_at("t", "(" * 1500, 1)
        self.fails_at("t", ")" * 1500, 0)
        self.fails_at("t", wide + ")" * 1500, len(wide))
        inputs = "".join(f"(x{number} 1)" for number in range(1200))
        self.assertEqual(len(read_program(f"(program (inputs {inputs}) 1)")[0]), 1200)

    def test_reading_what_is_written(self):
        for term in wild_terms(500, depth=6):
            self.assertEqual(read_term(write_term(term)), term)
        for kind in KINDS:
            self.assertEqual(read_kind(write_kind(kind)), kind)
        for inputs, term in (([], ("int", 3)), ([("x", "1"), ("x", "1"), ("name", "<0/0>")], ("name", "x"))):
            self.assertEqual(read_program(write_program(inputs, term)), (inputs, term))

    def test_reading_compares_nothing(self):
        for text in ("(fn x zz int y)", "(pair (fn x ? int x) (gone int))", "(split x x 1 2)", "(call 1 2)"):
            self.assertEqual(write_term(read_term(text)), text)


if __name__ == "__main__":
    unittest.main()
