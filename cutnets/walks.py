"""Walks along links and over cuts, and the normal structure that they tell."""

from cutnets.formulas import atom_count
from cutnets.refusals import NeverEnds
from cutnets.structures import Structure, conclusion_leaf_count


def leaves_over_cuts(structure):
    # None stands at the leaves of conclusions, where walks end.
    others = [None] * conclusion_leaf_count(structure)
    for cut in structure.cuts:
        start = len(others)
        middle = start + atom_count(cut)
        end = middle + atom_count(cut)
        others.extend(list(range(middle, end)) + list(range(start, middle)))
    return others


# The leaf where the walk ends, and how often it went over a cut.
def walk_from(structure, others, leaf):
    crossed = 0
    reached = structure.partners[leaf]
    while others[reached] is not None:
        crossed += 1
        # No two leaves are followed by the same one: so a walk that never ends comes back to its first leaf.
        if others[reached] == leaf:
            raise NeverEnds()
        reached = structure.partners[others[reached]]
    return (reached, crossed)


def normal_structure(structure):
    others = leaves_over_cuts(structure)
    # The walks from leaves of cuts are gone too: one that never ends is met by no walk from a conclusion.
    ends = [walk_from(structure, others, leaf)[0] for leaf in range(len(others))]
    return Structure(structure.conclusions, [], ends[:conclusion_leaf_count(structure)])
