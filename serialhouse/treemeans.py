"""Shares and means of all nodes of a tree of tosses, by one equation for each node.

Places are told by rows: a fraction for each thing, and the mean behind them. The row of a node is half of the sum
of those of the two places to which its tosses lead, its mean 1 more.
"""

from serialhouse.ratios import minus, over, plus, times


def row_of_place(many, rows, place):
    """The row of a place, those of the nodes being told; a thing counts 1 for itself."""
    if place >= 0:
        return rows[place]
    return row_of_thing(many, place)


def row_of_thing(many, place):
    """The row of a place at which a thing is drawn."""
    return tuple([(1, 1) if thing == -1 - place else (0, 1) for thing in range(many)]) + ((0, 1),)


def places_hold(many, tree, rows):
    """Whether rows of fractions for the nodes are as their tosses tell."""
    for node, (left, right) in enumerate(tree):
        mine = row_of_place(many, rows, left)
        yours = row_of_place(many, rows, right)
        if rows[node] != tossed_row(many, mine, yours):
            return False
    return True


def tossed_row(many, one, other):
    """The row of a node whose tosses lead to places with two rows."""
    halves = [times((1, 2), plus(mine, yours)) for mine, yours in zip(one, other)]
    return tuple(halves[:many] + [plus((1, 1), halves[many])])


class Equation:
    """The row of a node, told by parts of the rows of other nodes and a row that is known."""

    def __init__(self, parts, known):
        self.parts = parts
        self.known = known

    def without(self, node, other):
        """This equation with the part of a node told by the equation of the node, which has no part of its own."""
        share = self.parts.get(node)
        if share is None:
            return self
        parts = {each: self.parts[each] for each in self.parts if each != node}
        for each, more in other.parts.items():
            parts[each] = plus(parts.get(each, (0, 1)), times(share, more))
        return Equation(parts, [plus(mine, times(share, yours)) for mine, yours in zip(self.known, other.known)])

    def freed(self, node):
        """This equation of a node without a part of its own."""
        scale = over((1, 1), minus((1, 1), self.parts.get(node, (0, 1))))
        parts = {each: times(scale, self.parts[each]) for each in self.parts if each != node}
        return Equation(parts, [times(scale, told) for told in self.known])


def equation_of(many, pair):
    """The equation of a node whose tosses lead to two places."""
    parts = {}
    known = [(0, 1)] * many + [(1, 1)]
    for place in pair:
        if place >= 0:
            parts[place] = plus(parts.get(place, (0, 1)), (1, 2))
        else:
            known = [plus(told, times((1, 2), more)) for told, more in zip(known, row_of_thing(many, place))]
    return Equation(parts, known)


def solved(many, tree):
    """The rows of all nodes of a tree that ends.

    From the last node backward each is told by those ahead of it; so the first one is known, and then the others.
    """
    equations = [equation_of(many, pair) for pair in tree]
    for node in range(len(tree) - 1, -1, -1):
        equations[node] = equations[node].freed(node)
        for ahead in range(node):
            equations[ahead] = equations[ahead].without(node, equations[node])
    rows = []
    for equation in equations:
        for node, row in enumerate(rows):
            equation = equation.without(node, Equation({}, row))
        rows.append(tuple(equation.known))
    return rows
