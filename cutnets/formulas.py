"""Formulas: what they are of, their duals, their bounds and their forms.

A formula is a tuple of its nodes. A tensor or par stands ahead of the nodes of its first formula,
and these ahead of those of its second one: so every question is a walk along one row, without nesting.
A node is a tuple of its kind and, for an atom, its name (a tuple of bytes).
"""

# Apart from PLAIN, a kind is the byte that the form writes for it.
PLAIN = 0
TURNED = 126
TENSOR = 42
PAR = 124

DUAL_KINDS = {0: 126, 126: 0, 42: 124, 124: 42}

LEFT_BRACKET = 40
RIGHT_BRACKET = 41

MOST_ATOMS = 60
MOST_DEPTH = 40


def plain_atom(name):
    return ((PLAIN, name),)


def of_two(kind, first, second):
    return ((kind, ()),) + first + second


def dual(formula):
    return tuple([(DUAL_KINDS[kind], name) for kind, name in formula])


def is_atom(formula):
    return len(formula) == 1


def is_leaf(node):
    return node[0] == PLAIN or node[0] == TURNED


def leaves_of(formula):
    return [node for node in formula if is_leaf(node)]


def atom_count(formula):
    # Of n atoms, n - 1 nodes of two formulas make one formula.
    return (len(formula) + 1) // 2


def depth(formula):
    depths = []
    # From the end, the depths of both formulas are there when the node that is of them is met.
    for node in reversed(formula):
        if is_leaf(node):
            depths.append(1)
        else:
            depths.append(1 + max(depths.pop(), depths.pop()))
    return depths[0]


def in_bounds(formula):
    return atom_count(formula) <= MOST_ATOMS and depth(formula) <= MOST_DEPTH


def two_formulas(formula):
    # How many formulas must still come until the first one is whole.
    missing = 1
    end = 1
    while missing > 0:
        if is_leaf(formula[end]):
            missing -= 1
        else:
            missing += 1
        end += 1
    return (formula[1:end], formula[end:])


def atom_form(node):
    if node[0] == TURNED:
        return [TURNED] + list(node[1])
    return list(node[1])


def in_brackets(text):
    return [LEFT_BRACKET] + text + [RIGHT_BRACKET]


def form_of_two(kind, first, second):
    ahead = first[1] if first[0] == PLAIN else in_brackets(first[1])
    behind = second[1] if second[0] == PLAIN or second[0] == kind else in_brackets(second[1])
    return ahead + [kind] + behind


def formula_form(formula):
    # Each form with its kind, which tells whether it needs brackets; PLAIN stands for both kinds of atoms.
    forms = []
    for node in reversed(formula):
        if is_leaf(node):
            forms.append((PLAIN, atom_form(node)))
        else:
            first = forms.pop()
            second = forms.pop()
            forms.append((node[0], form_of_two(node[0], first, second)))
    return forms[0][1]
