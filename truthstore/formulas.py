"""Formulas, read into the tables of what they say."""

from truthstore.faults import Fault, NOT_ALLOWED, TOO_DEEP, UNKNOWN_NAME
from truthstore.reader import Reader
from truthstore.tokens import WORD

DEEPEST = 24

PARTS = {"not": 1, "and": 2, "or": 2, "eq": 2, "if": 3}


def formula_table(text, names, space):
    """The table of what the text's formula says of the variables with these names."""
    reader = Reader(text)
    table = read_formula(reader, names, space, 1)
    if not reader.is_done():
        reader.refuse()
    return table


def read_formula(reader, names, space, depth):
    """Read a formula that stands inside depth less 1 others."""
    token = reader.current()
    if depth > DEEPEST:
        raise Fault(TOO_DEEP, token.place)
    if token.kind != WORD:
        reader.refuse()
    reader.step()
    # "if" is no name, so it begins a formula of parts whatever is behind it.
    if token.held == "if" or (token.held in PARTS and reader.stands("(")):
        parts = read_parts(reader, names, space, depth, PARTS[token.held])
        return combined(token.held, parts, space)
    if token.held == "true":
        return space.full
    if token.held == "false":
        return 0
    return named_table(reader, token, names, space)


def read_parts(reader, names, space, depth, count):
    """Read so many formulas in brackets."""
    reader.take_sign("(")
    parts = [read_formula(reader, names, space, depth + 1)]
    while len(parts) < count:
        reader.take_sign(",")
        parts.append(read_formula(reader, names, space, depth + 1))
    reader.take_sign(")")
    return parts


def combined(word, parts, space):
    """The table of what the word says of its parts' tables."""
    if word == "not":
        return space.other(parts[0])
    if word == "and":
        return parts[0] & parts[1]
    if word == "or":
        return parts[0] | parts[1]
    if word == "eq":
        return space.same(parts[0], parts[1])
    return space.chosen(parts[0], parts[1], parts[2])


def named_table(reader, token, names, space):
    """The table of the variable whose name the token, which has just been read, is."""
    if not token.is_name() or reader.stands("("):
        raise Fault(NOT_ALLOWED, token.place)
    if token.held not in names:
        raise Fault(UNKNOWN_NAME, token.place)
    return space.variable_tables[names.index(token.held)]
