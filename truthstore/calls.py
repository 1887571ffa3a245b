"""What each call answers that makes a diagram, once variables are held: a list of the numbers that are told."""

from truthstore.faults import Fault
from truthstore.formulas import formula_table
from truthstore.refusals import WrongArgument


def answer_add(store, names, text):
    """Make the diagram of a formula."""
    try:
        table = formula_table(text, names, store.space)
    except Fault as fault:
        return [0, fault.code, fault.place]
    return [1, store.make(table)]


def answer_both(store, choice, first, second):
    """Make a diagram of what two diagrams say together."""
    store.check_diagram(first)
    store.check_diagram(second)
    one = store.tables[first]
    two = store.tables[second]
    if choice == 0:
        return [store.make(one & two)]
    if choice == 1:
        return [store.make(one | two)]
    if choice == 2:
        return [store.make(one ^ two)]
    if choice == 3:
        return [store.make(store.space.other(one) | two)]
    raise WrongArgument()


def answer_not(store, diagram):
    """Make a diagram of the other truth."""
    store.check_diagram(diagram)
    return [store.make(store.space.other(store.tables[diagram]))]


def answer_choose(store, asked, yes, no):
    """Make a diagram of one where another says yes, else of a third."""
    store.check_diagram(asked)
    store.check_diagram(yes)
    store.check_diagram(no)
    return [store.make(store.space.chosen(store.tables[asked], store.tables[yes], store.tables[no]))]


def answer_set(store, diagram, variable, truth):
    """Make a diagram of what one says with a variable's truth given."""
    store.check_diagram(diagram)
    store.check_variable(variable)
    if truth not in (0, 1):
        raise WrongArgument()
    return [store.make(store.space.fixed(store.tables[diagram], variable, truth))]


def answer_some(store, diagram, variable):
    """Make a diagram of whether one says yes for some truth of a variable."""
    store.check_diagram(diagram)
    store.check_variable(variable)
    table = store.tables[diagram]
    return [store.make(store.space.fixed(table, variable, 0) | store.space.fixed(table, variable, 1))]


def answer_every(store, diagram, variable):
    """Make a diagram of whether one says yes for every truth of a variable."""
    store.check_diagram(diagram)
    store.check_variable(variable)
    table = store.tables[diagram]
    return [store.make(store.space.fixed(table, variable, 0) & store.space.fixed(table, variable, 1))]


def answer_put(store, diagram, variable, inner):
    """Make a diagram of what one says with a variable being what another says."""
    store.check_diagram(diagram)
    store.check_variable(variable)
    store.check_diagram(inner)
    table = store.tables[diagram]
    with_false = store.space.fixed(table, variable, 0)
    with_true = store.space.fixed(table, variable, 1)
    return [store.make(store.space.chosen(store.tables[inner], with_true, with_false))]
