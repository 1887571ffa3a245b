"""The variables that a text tells: their names and their chances."""

from truthstore.faults import Fault, OUT_OF_BOUNDS, TAKEN_NAME, TOO_MANY
from truthstore.ratios import lowest
from truthstore.reader import Reader

MOST_VARIABLES = 12


class Variables:
    """Names, and for each the fraction that is its chance of being true."""

    def __init__(self, names, chances):
        self.names = names
        self.chances = chances


def variables_of(text):
    """The variables that the text tells; a fault if it tells none."""
    reader = Reader(text)
    names = []
    chances = []
    read_variable(reader, names, chances)
    while not reader.is_done():
        reader.take_sign(",")
        read_variable(reader, names, chances)
    return Variables(names, chances)


def read_variable(reader, names, chances):
    """Read one variable and put it behind those that were read."""
    names.append(read_new_name(reader, names))
    reader.take_sign(":")
    chances.append(read_chance(reader))


def read_new_name(reader, names):
    """Read a name that none of the variables has that were read."""
    token = reader.current()
    if not token.is_name():
        reader.refuse()
    if len(names) == MOST_VARIABLES:
        raise Fault(TOO_MANY, token.place)
    if token.held in names:
        raise Fault(TAKEN_NAME, token.place)
    reader.step()
    return token.held


def read_chance(reader):
    """Read a fraction from 0 to 1."""
    first = reader.take_number()
    below = read_denominator(reader)
    if first.held < 0 or first.held > below:
        raise Fault(OUT_OF_BOUNDS, first.place)
    return lowest(first.held, below)


def read_denominator(reader):
    """Read what stands behind a fraction's first number; 1 if it ends there."""
    if not reader.stands("/"):
        return 1
    reader.step()
    token = reader.take_number()
    if token.held < 1:
        raise Fault(OUT_OF_BOUNDS, token.place)
    return token.held
