"""Rewriting terms without running them."""

from usescale.errors import NoRedex, OutOfMoves
from usescale.forms import term_parts, with_parts
from usescale.terms import substitute

# The forms of the first part that make a term of a form a redex.
FIRST_FORMS = {
    "call": ("fn",),
    "split": ("pair",),
    "case": ("left", "right"),
    "unbox": ("box",),
    "test": ("int",),
    "repeat": ("int",),
}


def redexes(term):
    """The places of all redexes in a term, a term before its parts, the parts from left to right."""
    found = []
    waiting = [((), term)]
    place = next_redex(waiting)
    while place is not None:
        found.append(place)
        place = next_redex(waiting)
    return found


def next_redex(waiting):
    """The place of the first redex in the terms that are waiting with their places, the last one first, or None.

    What has been looked through is no longer waiting afterwards.
    """
    while waiting:
        place, part = waiting.pop()
        inner = [((*place, number), term) for number, term in enumerate(term_parts(part))]
        waiting.extend(inner[::-1])
        if is_redex(part):
            return place
    return None


def is_redex(term):
    """Whether a term is itself a redex."""
    return term[0] in FIRST_FORMS and term_parts(term)[0][0] in FIRST_FORMS[term[0]]


def rewrite(term, place):
    """The term with the redex at a place rewritten."""
    path = [term]
    for number in place:
        parts = term_parts(path[-1])
        if not 0 <= number < len(parts):
            raise NoRedex(place)
        path.append(parts[number])
    result = path.pop()
    if not is_redex(result):
        raise NoRedex(place)
    result = contracted(result)
    for number in place[::-1]:
        outer = path.pop()
        parts = term_parts(outer)
        parts[number] = result
        result = with_parts(outer, parts)
    return result


def rewrite_all(term, limit=200):
    """The term without redexes that comes of rewriting the first redex again and again, and how often it was done."""
    result = term
    many = 0
    place = next_redex([((), result)])
    while place is not None:
        if many >= limit:
            raise OutOfMoves(limit)
        result = rewrite(result, place)
        many = many + 1
        place = next_redex([((), result)])
    return result, many


def contracted(term):
    """The term that a redex is rewritten to."""
    contract = CONTRACTS[term[0]]
    return contract(term)


def contract_call(term):
    _, function, argument = term
    _, name, _, _, body = function
    return substitute(body, {name: argument})


def contract_split(term):
    _, first, second, pair, body = term
    images = {first: pair[1]}
    # If both names are the same one, it means the second half.
    images[second] = pair[2]
    return substitute(body, images)


def contract_case(term):
    _, choice, left_name, left_branch, right_name, right_branch = term
    if choice[0] == "left":
        return substitute(left_branch, {left_name: choice[2]})
    return substitute(right_branch, {right_name: choice[2]})


def contract_unbox(term):
    _, name, box, body = term
    return substitute(body, {name: box[2]})


def contract_test(term):
    _, number, above, otherwise = term
    return above if number[1] > 0 else otherwise


def contract_repeat(term):
    _, number, name, grade, last, following = term
    if number[1] <= 0:
        return last
    rest = ("repeat", ("int", number[1] - 1), name, grade, last, following)
    return substitute(following, {name: rest})


CONTRACTS = {
    "call": contract_call,
    "split": contract_split,
    "case": contract_case,
    "unbox": contract_unbox,
    "test": contract_test,
    "repeat": contract_repeat,
}
