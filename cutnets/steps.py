"""Steps at cuts, one or all of them, and the weights that tell how many there will be."""

from cutnets.formulas import atom_count, is_atom, two_formulas
from cutnets.structures import Structure, first_leaf_of_cut, renumbered


def weight(cut):
    return 2 * atom_count(cut) - 1


def steps_left(structure):
    return sum([weight(cut) for cut in structure.cuts])


def is_stuck(structure, k):
    if not is_atom(structure.cuts[k]):
        return False
    leaf = first_leaf_of_cut(structure, k)
    return structure.partners[leaf] == leaf + 1


def with_cuts(structure, k, instead, partners):
    cuts = structure.cuts[:k] + instead + structure.cuts[k + 1:]
    return Structure(structure.conclusions, cuts, partners)


def after_split(structure, k):
    two = two_formulas(structure.cuts[k])
    start = first_leaf_of_cut(structure, k)
    second = start + atom_count(two[0])
    first_dual = start + atom_count(structure.cuts[k])
    second_dual = first_dual + atom_count(two[0])
    # The cut of B and C has the leaves of B, C, B's dual, C's dual; of the two cuts C and B's dual change places.
    leaves = list(range(second)) + list(range(first_dual, second_dual)) + list(range(second, first_dual))
    leaves = leaves + list(range(second_dual, len(structure.partners)))
    return with_cuts(structure, k, list(two), renumbered(structure.partners, leaves))


def after_joining(structure, k):
    leaf = first_leaf_of_cut(structure, k)
    one = structure.partners[leaf]
    other = structure.partners[leaf + 1]
    partners = list(structure.partners)
    partners[one] = other
    partners[other] = one
    leaves = list(range(leaf)) + list(range(leaf + 2, len(partners)))
    return with_cuts(structure, k, [], renumbered(partners, leaves))


def after_step(structure, k):
    if is_atom(structure.cuts[k]):
        return after_joining(structure, k)
    return after_split(structure, k)


# The structure in which all cuts are stuck, and how many steps lead to it.
def after_all_steps(structure, from_the_end):
    done = 0
    # A stuck cut stays stuck whatever is done at others: so those that were passed over are not looked at again.
    stuck = 0
    while stuck < len(structure.cuts):
        k = len(structure.cuts) - 1 - stuck if from_the_end else stuck
        if is_stuck(structure, k):
            stuck += 1
        else:
            structure = after_step(structure, k)
            done += 1
    return (structure, done)
