"""The rules of checking, node by node.

The parts of a node are derivations, or anything with their usage and kind. Where only some parts are told, they are
the first ones, and the rule speaks of the last of them.
"""

from usescale.errors import GoneTerm, KindClash, LooseGap, NoTurns, Overuse, TwiceBound, UnboundName, WrongForm
from usescale.forms import GAP_AT, INT, bound_names, grades_written, has_gap
from usescale.grades import Grade
from usescale.kinds import fits
from usescale.usages import Usage, either_names

# The numbers of the parts that have the kind int.
INT_PARTS = {"add": (0, 1), "sub": (0, 1), "mul": (0, 1), "test": (0,), "repeat": (0,)}

# The form that the kind of the first part has.
FORMS = {"call": "fun", "split": "pair", "case": "either", "unbox": "box"}

# Forms whose binders have the grade one.
LINEAR = ("split", "case")

# Forms whose last part has the kind of the part ahead of it.
BRANCHING = ("case", "test", "repeat")


def look_at_term(scale, term, gap_allowed):
    """Raises what is wrong with a term itself; gap_allowed tells whether an fn may have a gap at its place."""
    word = term[0]
    if word == "gone":
        raise GoneTerm()
    if word == "fn" and has_gap(term) and not gap_allowed:
        raise LooseGap(term[1])
    for name in grades_written(term):
        scale.at_name(name)
    if word == "split" and term[1] == term[2]:
        raise TwiceBound(term[1])


def allows_gap(term, number):
    """Whether an fn that is the part of a term with the number may have a gap."""
    return term[0] in ("call", "as") and number == 0


def context_inside(term, parts, context):
    """The kinds of the names in the part that follows the told ones."""
    number = len(parts)
    inner = dict(context)
    for name, kind in zip(bound_names(term, number), bound_kinds(term, parts)):
        inner[name] = kind
    return inner


def bound_kinds(term, parts):
    """The kinds of the names that are bound in the part that follows the told ones."""
    word = term[0]
    number = len(parts)
    if word == "fn":
        return [term[3]]
    if word == "split" and number == 1:
        return [parts[0].kind[1], parts[0].kind[2]]
    if word == "case" and number > 0:
        return [parts[0].kind[number]]
    if word == "unbox" and number == 1:
        return [parts[0].kind[2]]
    if word == "repeat" and number == 2:
        return [parts[1].kind]
    return []


def check_kind(scale, term, parts):
    """Raises an error if the last part has not a kind that its place asks for."""
    word = term[0]
    number = len(parts) - 1
    found = parts[number].kind
    if number in INT_PARTS.get(word, ()) and found != INT:
        raise KindClash(INT, found)
    if number == 0 and word in FORMS and found[0] != FORMS[word]:
        raise WrongForm(FORMS[word], found)
    if number == 1 and word == "call" and found != parts[0].kind[2]:
        raise KindClash(parts[0].kind[2], found)
    if number == 2 and word in BRANCHING and found != parts[1].kind:
        raise KindClash(parts[1].kind, found)
    if word == "as" and not fits(scale, found, term[1]):
        raise KindClash(term[1], found)


def check_binders(scale, term, parts, grade):
    """Raises Overuse if a name that is bound in the last part is not kept; the node's grade has the name grade."""
    number = len(parts) - 1
    for name in bound_names(term, number):
        allowed = Grade.one(scale) if term[0] in LINEAR else Grade.named(scale, grade)
        used = parts[number].usage[name]
        if not used <= allowed:
            raise Overuse(name, used.name, allowed.name)


def grade_by_rule(term, parts):
    """The name of the grade of a node. A gap is filled with what the last part uses of the name that it binds."""
    word = term[0]
    if has_gap(term):
        # In both forms with a gap it stands right behind the bound name.
        return parts[-1].usage[term[GAP_AT[word] - 1]].name
    if word in GAP_AT:
        return term[GAP_AT[word]]
    if word in ("call", "unbox"):
        return parts[0].kind[1]
    if word == "box":
        return term[1]
    return ""


def kind_by_rule(term, parts, grade, context):
    """The kind of a node whose grade has the name."""
    word = term[0]
    if word == "name":
        if term[1] not in context:
            raise UnboundName(term[1])
        return context[term[1]]
    if word == "fn":
        return ("fun", grade, term[3], parts[0].kind)
    if word == "call":
        return parts[0].kind[3]
    if word == "pair":
        return ("pair", parts[0].kind, parts[1].kind)
    if word == "left":
        return ("either", parts[0].kind, term[1])
    if word == "right":
        return ("either", term[1], parts[0].kind)
    if word == "box":
        return ("box", grade, parts[0].kind)
    if word == "as":
        return term[1]
    if word in ("split", "case", "unbox", "test", "repeat"):
        return parts[1].kind
    return INT


def turns_by_rule(scale, term, parts, grade):
    """The least usage of the turns of a node; None if it is no repeat."""
    if term[0] != "repeat":
        return None
    start, extra = parts[1].usage, unbound_usage(term, parts, 2)
    turns = Usage(scale)
    for name in either_names(start, extra):
        place = scale.turns_at(start[name].place, extra[name].place, scale.at_name(grade))
        if place is None:
            raise NoTurns(name)
        turns[name] = Grade(scale, place)
    return turns


def turns_follow(scale, term, parts, grade, turns):
    """Whether a usage is enough for the turns of a node; None is for what is no repeat."""
    if term[0] != "repeat" or turns is None:
        return term[0] != "repeat" and turns is None
    following = unbound_usage(term, parts, 2) + Grade.named(scale, grade) * turns
    return parts[1].usage <= turns and following <= turns


def usage_by_rule(scale, term, parts, grade, turns):
    """The usage of a node whose grade has the name; turns is the usage of the turns of a repeat."""
    if term[0] == "name":
        return Usage.one_of(scale, term[1])
    if term[0] == "box":
        return Grade.named(scale, grade) * parts[0].usage
    if not parts:
        return Usage(scale)
    return unbound_usage(term, parts, 0) + usage_behind(scale, term, parts, grade, turns)


def usage_behind(scale, term, parts, grade, turns):
    """What a node uses besides its first part: the usage of what waits while that part is evaluated."""
    word = term[0]
    if word == "call":
        return Grade.named(scale, grade) * parts[1].usage
    if word in ("case", "test"):
        return unbound_usage(term, parts, 1) | unbound_usage(term, parts, 2)
    if word == "repeat":
        return turns
    return unbound_usage(term, parts, 1) if len(parts) == 2 else Usage(scale)


def unbound_usage(term, parts, number):
    """The usage of the part with the number, without the names that are bound in it."""
    names = bound_names(term, number)
    return parts[number].usage.without(*names)
