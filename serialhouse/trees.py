"""Trees of tosses made by any hand: what they draw, with which shares, and by how many tosses in the mean."""

from serialhouse.errors import Endless, Uneven
from serialhouse.ratios import is_fraction, minus
from serialhouse.reaching import reached
from serialhouse.tosses import are_tosses, leaves_at, mean, open_round
from serialhouse.treemeans import places_hold, solved
from serialhouse.values import is_integer, is_tuple_of


def is_tree(many, thing):
    """Whether any value is a tree among so many things."""
    if not isinstance(thing, tuple) or not all([is_node(many, node, len(thing)) for node in thing]):
        return False
    if not thing:
        return many == 1
    return len(reached([0], onward_nodes(thing))) == len(thing)


def is_node(many, thing, size):
    """Whether any value is a pair of numbers of nodes, of so many, or of things, told below 0."""
    return is_tuple_of(thing, 2) and all([is_integer(place) and -many <= place < size for place in thing])


def onward_nodes(tree):
    """A dict from nodes to the nodes to which their tosses lead."""
    return {node: [place for place in pair if place >= 0] for node, pair in enumerate(tree)}


def ending_nodes(tree):
    """A dict of the nodes from which some thing can be drawn."""
    backward = {}
    for node, places in onward_nodes(tree).items():
        for place in places:
            backward.setdefault(place, []).append(node)
    return reached([node for node, pair in enumerate(tree) if min(pair) < 0], backward)


def does_end(many, tree):
    """Whether from each node of a tree some thing can be drawn."""
    return len(ending_nodes(tree)) == len(tree)


def tree_paper(many, tree):
    """A paper for a tree with nodes: ("ends", rows, means), or ("endless", tosses)."""
    if not does_end(many, tree):
        return "endless", tosses_without_end(tree)
    told = solved(many, tree)
    return "ends", tuple([row[:many] for row in told]), tuple([row[many] for row in told])


def tosses_without_end(tree):
    """The first row of tosses to a node from which nothing can be drawn."""
    ending = ending_nodes(tree)
    rows = {0: ""}
    nodes = [0]
    looked_at = 0
    while nodes[looked_at] in ending:
        node = nodes[looked_at]
        looked_at += 1
        for sign, place in zip("01", tree[node]):
            if place >= 0 and place not in rows:
                rows[place] = rows[node] + sign
                nodes.append(place)
    return rows[nodes[looked_at]]


def tree_holds(many, tree, thing):
    """Whether any value is a paper for a tree; none is one for a tree without nodes."""
    if not tree or not isinstance(thing, tuple) or not thing:
        return False
    if thing[0] == "ends":
        return len(thing) == 3 and have_form_of_places(many, tree, thing[1], thing[2]) and places_hold(
            many, tree, [row + (told,) for row, told in zip(thing[1], thing[2])])
    return thing[0] == "endless" and len(thing) == 2 and is_without_end(many, tree, thing[1])


def have_form_of_places(many, tree, rows, means):
    """Whether any values are a tuple of as many fractions as there are things for each node, and one of each."""
    if not is_tuple_of(rows, len(tree)) or not is_tuple_of(means, len(tree)):
        return False
    if not all([is_tuple_of(row, many) for row in rows]):
        return False
    return all([is_fraction(told) for row in rows + (means,) for told in row])


def is_without_end(many, tree, thing):
    """Whether any value is a row of tosses to a node from which nothing can be drawn."""
    if not are_tosses(thing):
        return False
    told = walked(many, tree, thing)
    return told[0] == "at" and told[1] not in ending_nodes(tree)


def tree_places(many, tree):
    """The shares, and the mean behind them, of node 0; raises Endless."""
    if not tree:
        return (1, 1), (0, 1)
    if not does_end(many, tree):
        raise Endless(tree_paper(many, tree))
    return solved(many, tree)[0]


def tree_shares(many, tree):
    """The shares with which a tree draws each thing; raises Endless."""
    return tree_places(many, tree)[:many]


def tree_mean(many, tree):
    """The mean number of tosses of a tree; raises Endless."""
    return tree_places(many, tree)[many]


def is_even(many, tree):
    """Whether a tree ends and draws all things with the same share."""
    return does_end(many, tree) and len(set(tree_shares(many, tree))) == 1


def is_least(many, tree):
    """Whether a tree is even and has the least mean."""
    return is_even(many, tree) and tree_mean(many, tree) == mean(many)


def excess(many, tree):
    """The mean of a tree less the least one among as many things; raises Endless, then Uneven."""
    told = tree_places(many, tree)
    if len(set(told[:many])) > 1:
        raise Uneven(told[:many])
    return minus(told[many], mean(many))


def unlike_depth(many, tree):
    """The least depth at which a thing has other leaves than its figure, None if there is none; raises as excess."""
    if excess(many, tree) == (0, 1):
        return None
    depth = 0
    ways = {0: 1}
    leaves = [0] * many
    while all([many * each == leaves_at(many, depth) for each in leaves]):
        ways, leaves = tossed(many, tree, ways)
        depth += 1
    return depth


def tree_leaves(many, tree, depth):
    """For each thing how many rows of just so many tosses draw it with their last toss."""
    ways = {0: 1}
    leaves = [0] * many if tree else [1]
    for _ in range(depth):
        ways, leaves = tossed(many, tree, ways) if tree else (ways, [0])
    return tuple(leaves)


def tossed(many, tree, ways):
    """By one toss more: a dict from nodes to how many ways lead to them, and how many draw each thing."""
    onward = {}
    leaves = [0] * many
    for node in ways:
        for place in tree[node]:
            if place < 0:
                leaves[-1 - place] += ways[node]
            else:
                onward[place] = onward.get(place, 0) + ways[node]
    return onward, leaves


def walked(many, tree, tosses):
    """("drawn", thing, used), or ("at", node) behind all tosses."""
    if not tree:
        return "drawn", 0, 0
    node = 0
    for used, toss in enumerate(tosses, start=1):
        node = tree[node][1 if toss == "1" else 0]
        if node < 0:
            return "drawn", -1 - node, used
    return "at", node


def least_tree(many):
    """A least tree among so many things: the open places of drawing, until these come round."""
    if many == 1:
        return ()
    first, around = open_round(many)
    opens = [1]
    for depth in range(1, first + around):
        opens.append(2 * opens[-1] - leaves_at(many, depth))
    starts = [sum(opens[:depth]) for depth in range(first + around)] + [sum(opens[:first])]
    nodes = []
    for depth, places in enumerate(opens, start=1):
        leaves = leaves_at(many, depth)
        told = [-1 - place if place < leaves else starts[depth] + place - leaves for place in range(2 * places)]
        nodes.extend(list(zip(told[::2], told[1::2])))
    return tuple(nodes)
