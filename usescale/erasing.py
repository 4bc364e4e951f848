"""Erasing what an accepted term never looks at."""

from usescale.derivations import filled_outside
from usescale.grades import Grade

# The number of the part of a term that is never looked at if the grade of its derivation is idle.
IDLE_PARTS = {"call": 1, "box": 0}


def erase(scale, derivation):
    """The term of a derivation with its gaps filled and all that has an idle grade replaced by gone terms."""
    erased_number = idle_part(scale, derivation)
    parts = []
    for number, part in enumerate(derivation.parts):
        if number == erased_number:
            parts.append(("gone", part.kind))
        else:
            parts.append(erase(scale, part))
    return filled_outside(derivation, parts)


def idle_part(scale, derivation):
    """The number of the part of a derivation that is never looked at, or None."""
    word = derivation.term[0]
    if word in IDLE_PARTS and Grade.named(scale, derivation.grade).idle:
        return IDLE_PARTS[word]
    return None
