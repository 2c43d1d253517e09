"""Structures: conclusions, cuts and links; their leaves, and their forms."""

from cutnets.formulas import atom_count, dual, formula_form, leaves_of
from cutnets.texts import bytes_of, put_together

MOST_LEAVES = 120


class Structure:
    # partners tells for each leaf the leaf that it is linked with. A structure is never changed once it is made:
    # so whatever is refused half-way has left the one that is held as it was.
    def __init__(self, conclusions, cuts, partners):
        self.conclusions = conclusions
        self.cuts = cuts
        self.partners = partners


def formulas_of(conclusions, cuts):
    formulas = list(conclusions)
    for cut in cuts:
        formulas.append(cut)
        formulas.append(dual(cut))
    return formulas


def all_leaves(conclusions, cuts):
    leaves = []
    for formula in formulas_of(conclusions, cuts):
        leaves.extend(leaves_of(formula))
    return leaves


def conclusion_leaf_count(structure):
    return sum([atom_count(formula) for formula in structure.conclusions])


def first_leaf_of_cut(structure, k):
    return conclusion_leaf_count(structure) + 2 * sum([atom_count(cut) for cut in structure.cuts[:k]])


def renumbered(partners, leaves):
    # leaves has the old numbers of those that stay, in their new order.
    places = {}
    for place, leaf in enumerate(leaves):
        places[leaf] = place
    return [places[partners[leaf]] for leaf in leaves]


def sequent_form(sequent):
    return put_together([formula_form(formula) for formula in sequent], bytes_of(", "))


def links_form(partners):
    pairs = []
    for leaf, partner in enumerate(partners):
        if leaf < partner:
            pairs.append(bytes_of(f"{leaf}-{partner}"))
    return put_together(pairs, bytes_of(" "))


def structure_form(structure):
    parts = [sequent_form(structure.conclusions), sequent_form(structure.cuts), links_form(structure.partners)]
    return put_together(parts, bytes_of(" ; "))
