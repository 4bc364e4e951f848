"""Workbooks: rows of definitions on one scale that mention earlier ones."""

from usescale.checker import check, check_program
from usescale.errors import (BadLimit, BadName, InUse, NameMissing, Refused, TooLarge, Undefined, UsescaleError,
                             WrongCount)
from usescale.grades import check_one_scale
from usescale.machine import Machine
from usescale.maps import carry_term
from usescale.names import is_name
from usescale.reader import read_program, read_term
from usescale.terms import free_names, substitute, term_depth, term_size
from usescale.writer import write_term

MOST_MOVES = 5000
MOST_SIZE = 1000
MOST_DEPTH = 60


class Definition:
    """A definition that was checked: its text, the term that the text tells, and that term with mentions put in."""

    def __init__(self, text, told, term, kind):
        self.text = text
        self.told = told
        self.term = term
        self.kind = kind


class Workbook:
    """Definitions on one scale. The dict of the definitions is never changed, but replaced by another one."""

    def __init__(self, scale, limit=2000):
        check_limit(limit)
        self.scale = scale
        self._limit = limit
        self._definitions = {}

    @property
    def limit(self):
        """The greatest number of moves of a run."""
        return self._limit

    def set_limit(self, bound):
        """Sets the greatest number of moves of a run; gives the former one."""
        check_limit(bound)
        former = self._limit
        self._limit = bound
        return former

    def __setitem__(self, at, worth):
        self._definitions = with_definition(self.scale, self._definitions, at, worth)

    def definition_of(self, name):
        """The definition with the name."""
        if name not in self._definitions:
            raise Undefined(name)
        return self._definitions[name]

    def __getitem__(self, at):
        return self.definition_of(at).text

    def __contains__(self, x):
        return x in self._definitions

    def __iter__(self):
        raise TypeError("a workbook tells its names by names()")

    def __len__(self):
        return len(self._definitions)

    def names(self):
        """The names of all definitions in the order of the row."""
        return list(self._definitions)

    def kind_of(self, name):
        """The kind of a definition."""
        return self.definition_of(name).kind

    def term_of(self, name):
        """The term of a definition with mentions put in."""
        return self.definition_of(name).term

    def drop(self, name):
        """Removes a definition."""
        self.definition_of(name)
        users = [user for user in self._definitions if name in free_names(self._definitions[user].told)]
        if users:
            raise InUse(name, users)
        self._definitions = {other: self._definitions[other] for other in self._definitions if other != name}

    def run(self, text, *values):
        """The answer of a program with these integers for its inputs."""
        inputs, told = read_program(text)
        hidden = [name for name, _ in inputs]
        known = {name: self._definitions[name] for name in self._definitions if name not in hidden}
        derivation = check_program(self.scale, inputs, with_mentions(told, known))
        if len(values) != len(inputs):
            raise WrongCount(len(inputs), len(values))
        return Machine(self.scale, inputs, derivation, list(values)).finish(self._limit)

    def __iadd__(self, other):
        if not isinstance(other, Workbook):
            return NotImplemented
        check_one_scale(self.scale, other.scale)
        found = self._definitions
        for name in other.names():
            found = with_definition(self.scale, found, name, other[name])
        self._definitions = found
        return self

    def carry(self, m):
        """Changes the book to the target of a map."""
        check_one_scale(m.source, self.scale)
        texts = {name: write_term(carry_term(m, self._definitions[name].told)) for name in self._definitions}
        self._definitions = defined(m.target, {}, texts)
        self.scale = m.target

    def attempt(self, action):
        """What an action with the book returns. If an error leaves it, the book is as it was before."""
        scale, limit, definitions = self.scale, self._limit, self._definitions
        ended = None
        try:
            result = action(self)
            ended = True
        finally:
            if ended is None:
                self.scale, self._limit, self._definitions = scale, limit, definitions
        return result


def check_limit(bound):
    """Raises BadLimit if a number of moves is no limit."""
    if not 1 <= bound <= MOST_MOVES:
        raise BadLimit(bound)


def with_definition(scale, definitions, name, text):
    """The definitions with one more behind them, or with one redefined in its place."""
    if not is_name(name):
        raise BadName(name)
    row = list(definitions)
    start = row.index(name) if name in definitions else len(row)
    texts = {name: text}
    for later in row[start + 1:]:
        texts[later] = definitions[later].text
    return defined(scale, {earlier: definitions[earlier] for earlier in row[:start]}, texts)


def defined(scale, earlier, texts):
    """The definitions that stand earlier with those of the texts behind them, in their order."""
    found = dict(earlier)
    for name in texts:
        try:
            found[name] = definition_of_text(scale, found, texts[name])
        except (UsescaleError, NameMissing) as error:
            raise Refused(name) from error
    return found


def definition_of_text(scale, earlier, text):
    """The definition that a text tells behind those that stand earlier."""
    told = read_term(text)
    term = with_mentions(told, earlier)
    return Definition(text, told, term, check(scale, term).kind)


def with_mentions(told, definitions):
    """A term with the terms of the definitions that it mentions put in."""
    mentioned = [name for name in free_names(told) if name in definitions]
    term = substitute(told, {name: definitions[name].term for name in mentioned})
    size = term_size(term)
    if size > MOST_SIZE or term_depth(term) > MOST_DEPTH:
        raise TooLarge(size)
    return term
