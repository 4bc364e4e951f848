"""The written forms of kinds, terms and programs."""


def write_kind(kind):
    """The written form of a kind."""
    return in_text(kind)


def write_term(term):
    """The written form of a term."""
    return in_text(term)


def write_program(inputs, term):
    """The written form of a program with inputs that are told with the names of their grades."""
    rows = " ".join(["inputs", *[f"({name} {grade})" for name, grade in inputs]])
    return f"(program ({rows}) {in_text(term)})"


def in_text(row):
    """The written form of a kind or a term."""
    tokens = []
    waiting = [row]
    while waiting:
        part = waiting.pop()
        if isinstance(part, str):
            tokens.append(part)
        elif part[0] in ("int", "name"):
            # The kind int is written as its word, an integer or a name as what stands behind its word.
            tokens.append(str(part[-1]))
        else:
            tokens.append("(")
            waiting.append(")")
            waiting.extend(part[::-1])
    return " ".join(tokens).replace("( ", "(").replace(" )", ")")
