"""Whether a derivation is accepted, in the words of point 28."""

from plain_check import Found, PlainChecker
from usescale.errors import NameMissing, UsescaleError


class Rejected(Exception):
    """A node does not follow its rule."""


def places_of(usage):
    return {name: usage[name].place for name in usage.names()}


class PlainAccepter(PlainChecker):
    """The rules for one node, whose parts are taken as they are told."""

    def __init__(self, scale, node):
        super().__init__(scale)
        self.node, self.left = node, list(node.parts)

    def check(self, term, context, held=False):
        if not self.left:
            raise Rejected()
        part = self.left.pop(0)
        if part.term != term or not plain_accepts(self.scale, part, context, held):
            raise Rejected()
        return Found(term, places_of(part.usage), part.kind, [], part.grade, part.turns)

    def fill(self, place):
        return self.node.grade

    def within(self, first, second):
        return all(self.scale.within_at(self.at(first, name), self.at(second, name)) for name in {**first, **second})

    def turns(self, start, extra, grade):
        if self.node.turns is None or self.node.turns.scale.label != self.scale.label:
            raise Rejected()
        turns = places_of(self.node.turns)
        if not self.within(start, turns) or not self.within(self.plus(extra, self.times(grade, turns)), turns):
            raise Rejected()
        return turns


def plain_accepts(scale, node, context, held=False):
    accepter = PlainAccepter(scale, node)
    try:
        found = getattr(accepter, "check_" + node.term[0])(node.term, context, held)
    except (Rejected, UsescaleError, NameMissing):
        return False
    return (not accepter.left and node.usage.scale.label == scale.label
            and (found.kind, found.grade, found.turns is None) == (node.kind, node.grade, node.turns is None)
            and accepter.within(found.usage, places_of(node.usage)))
