import unittest

from nameless import INT, deep_term, one_of_each, text_of_each, wild_terms
from plain_read import plain_failure
from usescale.reader import read_program, read_term
from usescale.writer import write_kind, write_program, write_term

FUN = ("fun", "<1/2>", INT, ("box", "many", INT))


class WriterTest(unittest.TestCase):
    def test_every_form_of_kind(self):
        for kind, text in ((INT, "int"), (FUN, "(fun <1/2> int (box many int))"),
                           (("pair", FUN, INT), "(pair (fun <1/2> int (box many int)) int)"),
                           (("either", INT, ("pair", INT, INT)), "(either int (pair int int))"),
                           (("box", "0to1", INT), "(box 0to1 int)")):
            self.assertEqual(write_kind(kind), text)

    def test_every_form_of_term(self):
        texts = text_of_each()
        for word, term in one_of_each().items():
            self.assertEqual(write_term(term), texts[word])

    def test_gaps_integers_and_kinds_inside(self):
        self.assertEqual(write_term(("fn", "x", "?", FUN, ("name", "x"))), "(fn x ? (fun <1/2> int (box many int)) x)")
        self.assertEqual(write_term(("repeat", ("int", 0), "x", "?", ("int", -1), ("name", "x"))),
                         "(repeat 0 x ? -1 x)")
        self.assertEqual(write_term(("as", INT, ("int", 10 ** 60 - 1))), "(as int " + "9" * 60 + ")")
        self.assertEqual(write_term(("int", 1 - 10 ** 60)), "-" + "9" * 60)

    def test_names_that_look_like_something_else(self):
        for name in ("name", "term", "many", "x1"):
            self.assertEqual(write_term(("name", name)), name)
            self.assertEqual(write_term(("unbox", name, ("name", name), ("name", name))),
                             f"(unbox {name} {name} {name})")
            self.assertEqual(write_program([(name, name), (name, "1")], ("name", name)),
                             f"(program (inputs ({name} {name}) ({name} 1)) {name})")

    def test_programs(self):
        self.assertEqual(write_program([], ("int", 3)), "(program (inputs) 3)")
        inputs = [("x", "1"), ("y", "<0/2>")]
        term = ("add", ("name", "x"), ("box", "1", ("name", "y")))
        self.assertEqual(write_program(inputs, term), "(program (inputs (x 1) (y <0/2>)) (add x (box 1 y)))")
        self.assertEqual(inputs, [("x", "1"), ("y", "<0/2>")])

    def test_one_blank_between_parts_and_none_beside_parentheses(self):
        for term in wild_terms(300):
            text = write_term(term)
            self.assertIsNone(plain_failure(text, "t"))
            for pair in ("  ", "( ", " )", ")("):
                self.assertNotIn(pair, text)
            self.assertEqual(text, text.strip())
            self.assertEqual(read_term(text), term)
            program = write_program([("x", "1")], term)
            self.assertEqual(read_program(program), ([("x", "1")], term))

    def test_terms_that_open_more_than_forty_parentheses(self):
        text = write_term(deep_term(("name", "x"), 150))
        self.assertEqual(text.count("("), text.count(")"))
        box = ("int", 1)
        for _ in range(300):
            box = ("box", "1", box)
        self.assertEqual(write_term(box), "(box 1 " * 300 + "1" + ")" * 300)


if __name__ == "__main__":
    unittest.main()
