"""The operations on integers."""

OPERATIONS = ("add", "sub", "mul")


def operated(word, first, second):
    """What the operation with the word makes of two integers."""
    if word == "add":
        return first + second
    if word == "sub":
        return first - second
    return first * second
