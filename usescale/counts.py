"""Help with counts, for all scales."""


def greater(first, second):
    """The greater one of two integers."""
    return first if first >= second else second


def lesser(first, second):
    """The lesser one of two integers."""
    return first if first <= second else second


def item_of_run(trail, back, index):
    """The item at an index of an endless run that begins with trail and then goes on from position back again."""
    if index < len(trail):
        return trail[index]
    return trail[back + (index - back) % (len(trail) - back)]
