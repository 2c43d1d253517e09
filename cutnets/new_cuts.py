"""New cuts, which join two conclusions of two structures or of one."""

from cutnets.formulas import atom_count, dual
from cutnets.refusals import NotDual, NotThere, TooManyLeaves
from cutnets.structures import MOST_LEAVES, Structure, conclusion_leaf_count, renumbered


def conclusion_at(structure, i):
    if i < 0 or i >= len(structure.conclusions):
        raise NotThere()
    return structure.conclusions[i]


def leaves_of_conclusion(structure, i):
    start = sum([atom_count(formula) for formula in structure.conclusions[:i]])
    return list(range(start, start + atom_count(structure.conclusions[i])))


def side_by_side(structure, other):
    ahead = conclusion_leaf_count(structure)
    start = len(structure.partners)
    middle = start + conclusion_leaf_count(other)
    partners = structure.partners + [start + partner for partner in other.partners]
    # The conclusions of both come ahead of the cuts of both.
    leaves = list(range(ahead)) + list(range(start, middle)) + list(range(ahead, start))
    leaves = leaves + list(range(middle, len(partners)))
    conclusions = structure.conclusions + other.conclusions
    return Structure(conclusions, structure.cuts + other.cuts, renumbered(partners, leaves))


def with_new_cut(structure, i, j):
    moved = leaves_of_conclusion(structure, i) + leaves_of_conclusion(structure, j)
    leaves = [leaf for leaf in range(len(structure.partners)) if leaf not in moved] + moved
    conclusions = [formula for place, formula in enumerate(structure.conclusions) if place not in (i, j)]
    cuts = structure.cuts + [structure.conclusions[i]]
    return Structure(conclusions, cuts, renumbered(structure.partners, leaves))


def joined(structure, other, i, j):
    first = conclusion_at(structure, i)
    second = conclusion_at(other, j)
    if second != dual(first):
        raise NotDual()
    if len(structure.partners) + len(other.partners) > MOST_LEAVES:
        raise TooManyLeaves()
    return with_new_cut(side_by_side(structure, other), i, len(structure.conclusions) + j)


def bent(structure, i, j):
    first = conclusion_at(structure, i)
    second = conclusion_at(structure, j)
    if i == j or second != dual(first):
        raise NotDual()
    return with_new_cut(structure, i, j)
