"""Checking terms and programs on a scale."""

from usescale.derivations import Derivation
from usescale.errors import KindClash, Overuse, TwiceBound
from usescale.forms import INT, term_parts
from usescale.grades import Grade
from usescale.rules import (allows_gap, check_binders, check_kind, context_inside, grade_by_rule, kind_by_rule,
                            look_at_term, turns_by_rule, usage_by_rule)


def check(scale, term, context=None):
    """The derivation of a term; context gives the kinds of free names."""
    known = {} if context is None else dict(context)
    return derived(scale, term, known, False)


def derived(scale, term, context, gap_allowed):
    """The derivation of a term; gap_allowed tells whether an fn may have a gap at its place."""
    look_at_term(scale, term, gap_allowed)
    parts = []
    for number, part in enumerate(term_parts(term)):
        inner = context_inside(term, parts, context)
        parts.append(derived(scale, part, inner, allows_gap(term, number)))
        check_kind(scale, term, parts)
        check_binders(scale, term, parts, grade_by_rule(term, parts))
    grade = grade_by_rule(term, parts)
    kind = kind_by_rule(term, parts, grade, context)
    turns = turns_by_rule(scale, term, parts, grade)
    usage = usage_by_rule(scale, term, parts, grade, turns)
    return Derivation(term, usage, kind, parts, grade=grade, turns=turns)


def check_program(scale, inputs, term):
    """The derivation of the term of a program with these inputs."""
    return check_at(scale, inputs, term, Grade.one(scale))


def check_under(scale, inputs, term, under):
    """The derivation of the term of a program that is wanted at the grade with the name under."""
    return check_at(scale, inputs, term, Grade.named(scale, under))


def check_at(scale, inputs, term, wanted):
    """The derivation of the term of a program that is wanted at a grade."""
    context = {}
    for name, grade in inputs:
        scale.at_name(grade)
        if name in context:
            raise TwiceBound(name)
        context[name] = INT
    derivation = check(scale, term, context)
    if derivation.kind != INT:
        raise KindClash(INT, derivation.kind)
    for name, grade in inputs:
        used = wanted * derivation.usage[name]
        allowed = Grade.named(scale, grade)
        if not used <= allowed:
            raise Overuse(name, used.name, allowed.name)
    return derivation
