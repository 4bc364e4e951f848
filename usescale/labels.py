"""Scales that are read from their labels."""

from usescale.errors import BadScale
from usescale.families import CutScale, LevelScale, PairScale, RelationScale, SpanScale, SubsetScale, TurnedScale
from usescale.scales import TableScale
from usescale.tallies import ExactTally, LeastTally, MostTally

# A table at the greatest depth, 20, opens one more parenthesis for its rows.
MOST_OPEN = 21
MOST_NUMBER_SIGNS = 2


def read_scale(text):
    """The scale whose label the text is."""
    scale = scale_of(parts_of(text))
    # Reading passes over blanks and leading zeros that no label has.
    if scale.label != text:
        raise BadScale()
    return scale


def parts_of(text):
    """The text as one word or as nested lists of words."""
    rows = [[]]
    for word in text.replace("(", " ( ").replace(")", " ) ").split():
        if word == "(":
            # What is nested deeper is no label, and working through it would need as many calls.
            if len(rows) > MOST_OPEN:
                raise BadScale()
            rows.append([])
        elif word == ")":
            if len(rows) == 1:
                raise BadScale()
            row = rows.pop()
            rows[-1].append(row)
        else:
            rows[-1].append(word)
    if len(rows) != 1 or len(rows[0]) != 1:
        raise BadScale()
    return rows[0][0]


def scale_of(part):
    """The scale that a part of a text tells."""
    row = row_in(part)
    if not row:
        raise BadScale()
    word = word_in(row[0])
    if word not in READERS or len(row) != LENGTHS[word]:
        raise BadScale()
    read = READERS[word]
    return read(row)


def word_in(part):
    """The part, which must be a word."""
    if not isinstance(part, str):
        raise BadScale()
    return part


def row_in(part):
    """The part, which must be a list."""
    if not isinstance(part, list):
        raise BadScale()
    return part


def number_in(part):
    """The number that a part tells; no number in a label has more than two figures."""
    word = word_in(part)
    if not word.isascii() or not word.isdigit() or len(word) > MOST_NUMBER_SIGNS:
        raise BadScale()
    return int(word)


def words_in(part):
    """The part, which must be a list of words."""
    return [word_in(entry) for entry in row_in(part)]


def read_cut(row):
    return CutScale(number_in(row[1]), period=number_in(row[2]), order=word_in(row[3]))


def read_levels(row):
    return LevelScale(number_in(row[1]))


def read_subsets(row):
    return SubsetScale(number_in(row[1]))


def read_spans(row):
    return SpanScale(number_in(row[1]))


def read_relations(row):
    return RelationScale(number_in(row[1]))


def read_pair(row):
    return PairScale(scale_of(row[1]), scale_of(row[2]))


def read_turned(row):
    inner = scale_of(row[1])
    if inner.size is None:
        raise BadScale()
    return TurnedScale(inner)


def read_tally(row):
    order = word_in(row[1])
    if order == "same":
        return ExactTally()
    if order == "up":
        return MostTally()
    if order == "down":
        return LeastTally()
    raise BadScale()


def read_table(row):
    names = words_in(row[1])
    within = [[sign == "1" for sign in line] for line in words_in(row[4])]
    sums = lines_of(words_in(row[5]), len(names))
    products = lines_of(words_in(row[6]), len(names))
    return TableScale(names, within, sums, products, zero=word_in(row[2]), one=word_in(row[3]))


def lines_of(entries, length):
    """The entries in lines of a length."""
    if length == 0:
        raise BadScale()
    return [entries[at:at + length] for at in range(0, len(entries), length)]


READERS = {
    "cut": read_cut,
    "levels": read_levels,
    "subsets": read_subsets,
    "spans": read_spans,
    "relations": read_relations,
    "pair": read_pair,
    "turned": read_turned,
    "tally": read_tally,
    "table": read_table,
}

# How many parts a label of each form has, its first word included.
LENGTHS = {
    "cut": 4,
    "levels": 2,
    "subsets": 2,
    "spans": 2,
    "relations": 2,
    "pair": 3,
    "turned": 2,
    "tally": 2,
    "table": 7,
}
