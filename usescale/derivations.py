"""Derivations: what a check finds out about a term, node by node."""

from usescale.errors import NameMissing, UsescaleError
from usescale.forms import GAP_AT, has_gap, term_parts, with_parts
from usescale.rules import (allows_gap, check_binders, check_kind, context_inside, grade_by_rule, kind_by_rule,
                            look_at_term, turns_follow, usage_by_rule)


class Derivation:
    """The usage and the kind of a term, with the derivations of its parts."""

    def __init__(self, term, usage, kind, parts, *, grade="", turns=None):
        self.term = term
        self.usage = usage
        self.kind = kind
        self.parts = list(parts)
        self.grade = grade
        self.turns = turns


def filled(derivation):
    """The term of a derivation with every gap replaced by its grade."""
    parts = []
    for part in derivation.parts:
        parts.append(filled(part))
    return filled_outside(derivation, parts)


def filled_outside(derivation, parts):
    """The term of a derivation with other parts, where a gap outside them is replaced by its grade."""
    row = list(with_parts(derivation.term, parts))
    if has_gap(derivation.term):
        row[GAP_AT[row[0]]] = derivation.grade
    return tuple(row)


def accepts(scale, derivation, context=None):
    """Whether a derivation follows the rules, where usages and the grades of gaps may be larger than needed."""
    known = {} if context is None else dict(context)
    try:
        return all_follow(scale, derivation, known)
    except (UsescaleError, NameMissing):
        return False


def all_follow(scale, derivation, context):
    """Whether all nodes of a derivation follow the rules. A rule that is broken may also raise its error."""
    waiting = [(derivation, context, False)]
    while waiting:
        node, known, gap_allowed = waiting.pop()
        look_at_term(scale, node.term, gap_allowed)
        if [part.term for part in node.parts] != term_parts(node.term) or not follows(scale, node, known):
            return False
        for number, part in enumerate(node.parts):
            inner = context_inside(node.term, node.parts[:number], known)
            waiting.append((part, inner, allows_gap(node.term, number)))
    return True


def follows(scale, node, context):
    """Whether a node follows its rule, told from its parts. A rule that is broken may also raise its error."""
    term = node.term
    for number in range(len(node.parts)):
        check_kind(scale, term, node.parts[:number + 1])
    if not has_gap(term) and node.grade != grade_by_rule(term, node.parts):
        return False
    for number in range(len(node.parts)):
        check_binders(scale, term, node.parts[:number + 1], node.grade)
    if node.kind != kind_by_rule(term, node.parts, node.grade, context):
        return False
    if not turns_follow(scale, term, node.parts, node.grade, node.turns):
        return False
    return usage_by_rule(scale, term, node.parts, node.grade, node.turns) <= node.usage
