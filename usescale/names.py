"""Names of terms and inputs."""

from usescale.scales import MOST_SIGNS, NAME_SIGNS

WORDS = ("add", "as", "box", "call", "case", "either", "fn", "fun", "gone", "inputs", "int", "left", "mul", "pair",
         "program", "repeat", "right", "split", "sub", "test", "unbox")


def is_name(text):
    """Whether a text is a name."""
    if not 1 <= len(text) <= MOST_SIGNS or text in WORDS:
        return False
    return not text[0].isdigit() and all([sign in NAME_SIGNS for sign in text])


def new_name(taken):
    """A name that is not among those that are taken."""
    number = 0
    while f"x{number}" in taken:
        number = number + 1
    return f"x{number}"
