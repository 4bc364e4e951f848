"""Kinds: whether one fits another."""


def fits(scale, found, wanted):
    """Whether a kind that is found fits a kind that is wanted."""
    waiting = [(found, wanted)]
    while waiting:
        first, second = waiting.pop()
        if first[0] != second[0]:
            return False
        if first[0] == "fun":
            if not lies_within(scale, first[1], second[1]):
                return False
            # What a function takes is wanted of it, so the source fits the other way round.
            waiting.append((second[2], first[2]))
            waiting.append((first[3], second[3]))
        elif first[0] == "box":
            if not lies_within(scale, second[1], first[1]):
                return False
            waiting.append((first[2], second[2]))
        else:
            waiting.extend(list(zip(first[1:], second[1:])))
    return True


def lies_within(scale, first, second):
    """Whether the grade with the first name lies within the one with the second."""
    return scale.within_at(scale.at_name(first), scale.at_name(second))
