"""Where reading fails, told by what is expected next, one token after the other."""

import re

WORDS = set("add as box call case either fn fun gone inputs int left mul pair program repeat right split sub test "
            "unbox".split())
KINDS = {"fun": "g k k", "pair": "k k", "either": "k k", "box": "g k"}
TERMS = {"add": "t t", "sub": "t t", "mul": "t t", "fn": "n h k t", "call": "t t", "pair": "t t", "split": "n n t t",
         "left": "k t", "right": "k t", "case": "t n t n t", "box": "g t", "unbox": "n t t", "test": "t t t",
         "repeat": "t n h t t", "as": "k t", "gone": "k"}


def plain_tokens(text):
    """The tokens with their places."""
    return [(found.group(), found.start()) for found in re.finditer(r"[()]|[^ ()]+", text)]


def is_plain_name(token):
    return re.fullmatch("[a-z][a-z0-9]{0,11}", token) is not None and token not in WORDS


def is_plain_integer(token):
    return re.fullmatch("0|-?[1-9][0-9]{0,59}", token) is not None


def is_plain_grade(token):
    return re.fullmatch("[a-z0-9</>]+", token) is not None


def following(expected, token):
    """What is expected behind a token in place of what was expected at it; None if the token is not allowed."""
    alone = {"(": token == "(", ")": token == ")", "n": is_plain_name(token), "g": is_plain_grade(token),
             "h": token == "?" or is_plain_grade(token), "program": token == "program", "inputs": token == "inputs",
             "k": token == "int", "t": is_plain_name(token) or is_plain_integer(token)}
    if alone.get(expected):
        return []
    if expected in ("k", "t") and token == "(":
        return ["word of " + expected]
    if expected == "word of k" and token in KINDS:
        return KINDS[token].split() + [")"]
    if expected == "word of t" and token in TERMS:
        return TERMS[token].split() + [")"]
    if expected == "more inputs":
        return {"(": ["n", "g", ")", "more inputs"], ")": []}.get(token)
    return None


def plain_failure(text, expected):
    """The index at which reading fails, or None; expected is "k", "t" or "p" for a program."""
    stack = {"p": ["(", "program", "(", "inputs", "more inputs", "t", ")"]}.get(expected, [expected])[::-1]
    opened = 0
    for token, at in plain_tokens(text):
        if not stack or (token == "(" and opened == 40):
            return at
        more = following(stack.pop(), token)
        if more is None:
            return at
        opened += {"(": 1, ")": -1}.get(token, 0)
        stack.extend(more[::-1])
    return len(text) if stack else None
