"""Drawing together: whether a structure is a net.

The points of a structure are numbered as they stand in the rows of its formulas, one row behind another.
"""

from cutnets.formulas import PAR, TENSOR, is_leaf
from cutnets.structures import formulas_of


class Clusters:
    # above tells for each point another one of its cluster; a cluster has one point, its top, that tells itself.
    def __init__(self, points):
        self.above = list(range(points))
        self.clusters_left = points

    def top(self, point):
        while self.above[point] != point:
            # What is met is hung nearer to the top, so that the way there stays short.
            self.above[point] = self.above[self.above[point]]
            point = self.above[point]
        return point

    def are_one(self, point, other):
        return self.top(point) == self.top(other)

    # False if they are one already.
    def become_one(self, point, other):
        if self.are_one(point, other):
            return False
        self.above[self.top(point)] = self.top(other)
        self.clusters_left -= 1
        return True


# Each tensor or each par, and the two formulas that it is of.
def points_of_two(nodes, kind):
    found = []
    # From the end, both formulas are there when the node that is of them is met.
    starts = []
    for point in range(len(nodes) - 1, -1, -1):
        if not is_leaf(nodes[point]):
            first = starts.pop()
            second = starts.pop()
            if nodes[point][0] == kind:
                found.append((point, first, second))
        starts.append(point)
    return found


def tensor_edges(nodes):
    edges = []
    for point, first, second in points_of_two(nodes, TENSOR):
        edges.append((point, first))
        edges.append((point, second))
    return edges


def link_edges(nodes, partners):
    leaves = [point for point, node in enumerate(nodes) if is_leaf(node)]
    return [(leaves[leaf], leaves[partner]) for leaf, partner in enumerate(partners) if leaf < partner]


def cut_edges(structure):
    edges = []
    point = sum([len(formula) for formula in structure.conclusions])
    for cut in structure.cuts:
        edges.append((point, point + len(cut)))
        point += 2 * len(cut)
    return edges


def all_pars_are_taken(clusters, pars):
    # Which par is taken first makes no difference: one that is ready stays so.
    waiting = pars
    is_changed = True
    while is_changed:
        behind = []
        for par in waiting:
            if not clusters.are_one(par[1], par[2]):
                behind.append(par)
            elif not clusters.become_one(par[0], par[1]):
                return False
        is_changed = len(behind) < len(waiting)
        waiting = behind
    return len(waiting) == 0


def draws_together(structure):
    nodes = []
    for formula in formulas_of(structure.conclusions, structure.cuts):
        nodes.extend(formula)
    clusters = Clusters(len(nodes))
    for edge in tensor_edges(nodes) + link_edges(nodes, structure.partners) + cut_edges(structure):
        if not clusters.become_one(edge[0], edge[1]):
            return False
    return all_pars_are_taken(clusters, points_of_two(nodes, PAR)) and clusters.clusters_left == 1
