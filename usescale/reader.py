"""Kinds, terms and programs that are read from their written form."""

from usescale.errors import BadText
from usescale.forms import GAP, INT, KIND_FIELDS, TERM_FIELDS
from usescale.names import is_name

MOST_OPEN = 40
MOST_FIGURES = 60
GRADE_SIGNS = "abcdefghijklmnopqrstuvwxyz0123456789</>"


class Reader:
    """The tokens of a text, which are taken one after the other."""

    def __init__(self, text):
        self._tokens = tokens_of(text)
        self._length = len(text)
        self._taken = 0
        self._opened = 0

    def token(self):
        """The next token; the empty string stands behind the last one."""
        if self._taken == len(self._tokens):
            return ""
        return self._tokens[self._taken][0]

    def taken(self, allowed):
        """The next token, which is passed over if it is allowed at its place."""
        token = self.token()
        if not allowed:
            raise BadText(self._length if token == "" else self._tokens[self._taken][1])
        self._taken = self._taken + 1
        return token

    def open_row(self):
        """Passes over an opening parenthesis."""
        self.taken(self.token() == "(" and self._opened < MOST_OPEN)
        self._opened = self._opened + 1

    def close_row(self):
        """Passes over a closing parenthesis."""
        self.taken(self.token() == ")")
        self._opened = self._opened - 1

    def end_text(self):
        """Makes sure that no token is left."""
        if self.token() != "":
            self.taken(False)


def tokens_of(text):
    """The tokens of a text, each with the index of its first character."""
    found = []
    start = None
    for at, sign in enumerate(text):
        if sign not in " ()":
            if start is None:
                start = at
            continue
        if start is not None:
            found.append((text[start:at], start))
            start = None
        if sign != " ":
            found.append((sign, at))
    if start is not None:
        found.append((text[start:], start))
    return found


def read_kind(text):
    """The kind whose written form the text is."""
    reader = Reader(text)
    kind = take_kind(reader)
    reader.end_text()
    return kind


def read_term(text):
    """The term whose written form the text is."""
    reader = Reader(text)
    term = take_term(reader)
    reader.end_text()
    return term


def read_program(text):
    """The inputs and the term of the program whose written form the text is."""
    reader = Reader(text)
    reader.open_row()
    reader.taken(reader.token() == "program")
    inputs = take_inputs(reader)
    term = take_term(reader)
    reader.close_row()
    reader.end_text()
    return inputs, term


def take_inputs(reader):
    """The inputs of a program, each with the name of its grade."""
    found = []
    reader.open_row()
    reader.taken(reader.token() == "inputs")
    while reader.token() == "(":
        reader.open_row()
        name = take_name(reader)
        found.append((name, take_grade(reader)))
        reader.close_row()
    reader.close_row()
    return found


def take_name(reader):
    return reader.taken(is_name(reader.token()))


def take_grade(reader):
    return reader.taken(is_grade(reader.token()))


def take_grade_or_gap(reader):
    return reader.taken(reader.token() == GAP or is_grade(reader.token()))


def take_kind(reader):
    if reader.token() == INT[0]:
        reader.taken(True)
        return INT
    reader.open_row()
    word = reader.taken(reader.token() in KIND_FIELDS)
    return take_rest(reader, word, KIND_FIELDS[word])


def take_term(reader):
    token = reader.token()
    if is_integer(token):
        return ("int", int(reader.taken(True)))
    if is_name(token):
        return ("name", reader.taken(True))
    reader.open_row()
    word = reader.taken(reader.token() in TERM_FIELDS)
    return take_rest(reader, word, TERM_FIELDS[word])


def take_rest(reader, word, fields):
    """A kind or a term that begins with a word, of which the fields and the closing parenthesis are left."""
    row = [word]
    for field in fields:
        take = TAKERS[field]
        row.append(take(reader))
    reader.close_row()
    return tuple(row)


TAKERS = {
    "binder": take_name,
    "grade": take_grade,
    "gap": take_grade_or_gap,
    "kind": take_kind,
    "term": take_term,
}


def is_grade(token):
    """Whether a token is allowed where a grade is expected."""
    return token != "" and all([sign in GRADE_SIGNS for sign in token])


def is_integer(token):
    """Whether a token is an integer in decimal."""
    figures = token[1:] if token.startswith("-") else token
    if not figures.isascii() or not figures.isdigit() or len(figures) > MOST_FIGURES:
        return False
    return token == "0" or not figures.startswith("0")
