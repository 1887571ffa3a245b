"""What each call answers that makes nothing, once variables are held: a list of the numbers that are told."""

from truthstore.ratios import lowest
from truthstore.refusals import NothingToTell, WrongArgument

MOST_LISTS = 200


def answer_chance(store, diagram):
    """Tell a diagram's chance."""
    store.check_diagram(diagram)
    chance = lowest(store.weights[diagram], store.whole)
    return [1, chance[0], chance[1]]


def answer_given(store, diagram, known):
    """Tell a diagram's chance where another is known to say yes."""
    store.check_diagram(diagram)
    store.check_diagram(known)
    if store.weights[known] == 0:
        raise NothingToTell()
    chance = lowest(store.table_weight(store.tables[diagram] & store.tables[known]), store.weights[known])
    return [1, chance[0], chance[1]]


def answer_ways(store, diagram):
    """Tell for how many lists of truths a diagram says yes."""
    store.check_diagram(diagram)
    return [store.ways[diagram]]


def answer_node(store, diagram):
    """Tell a node's variable and its two diagrams."""
    store.check_diagram(diagram)
    if diagram in (0, 1):
        raise NothingToTell()
    return list(store.node_of(diagram))


def answer_nodes(store, diagram):
    """Tell a diagram's nodes."""
    store.check_diagram(diagram)
    nodes = store.nodes_of(diagram)
    return [len(nodes)] + nodes


def answer_hangs(store, diagram):
    """Tell the variables that a diagram hangs on."""
    store.check_diagram(diagram)
    variables = sorted(set([store.node_of(number)[0] for number in store.nodes_of(diagram)]))
    return [len(variables)] + variables


def answer_says(store, diagram, truths):
    """Tell what a diagram says for these truths."""
    store.check_diagram(diagram)
    if len(truths) != store.space.count or not are_truths(truths):
        raise WrongArgument()
    while diagram not in (0, 1):
        node = store.node_of(diagram)
        diagram = node[2] if truths[node[0]] == 1 else node[1]
    return [diagram]


def are_truths(row):
    """Whether each of the numbers is a truth."""
    return all([number in (0, 1) for number in row])


def answer_list(store, diagram, most):
    """Tell the first lists of truths for which a diagram says yes, at most so many."""
    store.check_diagram(diagram)
    if most < 0 or most > MOST_LISTS:
        raise WrongArgument()
    places = store.space.places(store.tables[diagram], most)
    told = [len(places)]
    for place in places:
        told.extend(store.space.truths_at(place))
    return told


def answer_best(store, diagram):
    """Tell how many of a diagram's lists of truths have the greatest chance, that chance, and the first of them."""
    store.check_diagram(diagram)
    if diagram == 0:
        raise NothingToTell()
    weights = store.list_weights()
    places = store.space.places(store.tables[diagram], store.ways[diagram])
    greatest = max([weights[place] for place in places])
    best = [place for place in places if weights[place] == greatest]
    chance = lowest(greatest, store.whole)
    return [len(best), chance[0], chance[1]] + store.space.truths_at(best[0])


def answer_size_by(store, diagram, order):
    """Tell how many nodes a diagram would have with the variables asked in this order."""
    store.check_diagram(diagram)
    if sorted(order) != list(range(store.space.count)):
        raise WrongArgument()
    return [store.size_by(diagram, order)]


def answer_sizes(store):
    """Tell how many variables and nodes there are."""
    return [store.space.count, len(store.nodes)]
