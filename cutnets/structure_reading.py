"""Texts read as structures."""

from cutnets.formula_reading import read_sequent
from cutnets.formulas import DUAL_KINDS, in_bounds
from cutnets.refusals import NoText, OutOfBounds, TooManyLeaves, WrongLinks
from cutnets.structures import MOST_LEAVES, Structure, all_leaves
from cutnets.texts import BLANK, is_digit, parted, without_outer_blanks

SEMICOLON = 59
HYPHEN = 45
ZERO = 48

MOST_LEAF_DIGITS = 3


def check_number(digits):
    if len(digits) == 0 or not all([is_digit(byte) for byte in digits]):
        raise NoText()
    if digits[0] == ZERO and len(digits) > 1:
        raise NoText()


def is_less(digits, others):
    # The digits are compared themselves: they may be thousands, far more than any leaf's number has.
    if len(digits) != len(others):
        return len(digits) < len(others)
    return digits < others


def read_pair(text):
    numbers = parted(text, HYPHEN)
    if len(numbers) != 2:
        raise NoText()
    for digits in numbers:
        check_number(digits)
    if not is_less(numbers[0], numbers[1]):
        raise NoText()
    return numbers


def read_links(text):
    inner = without_outer_blanks(text)
    if len(inner) == 0:
        return []
    pairs = [read_pair(part) for part in parted(inner, BLANK)]
    for place in range(1, len(pairs)):
        if not is_less(pairs[place - 1][0], pairs[place][0]):
            raise NoText()
    return pairs


def leaf_number(digits, leaves):
    if len(digits) > MOST_LEAF_DIGITS:
        raise WrongLinks()
    number = 0
    for byte in digits:
        number = number * 10 + byte - ZERO
    if number >= len(leaves):
        raise WrongLinks()
    return number


def are_dual(leaf, other):
    return leaf[1] == other[1] and DUAL_KINDS[leaf[0]] == other[0]


def partners_of(pairs, leaves):
    partners = {}
    for pair in pairs:
        lesser = leaf_number(pair[0], leaves)
        greater = leaf_number(pair[1], leaves)
        if lesser in partners or greater in partners or not are_dual(leaves[lesser], leaves[greater]):
            raise WrongLinks()
        partners[lesser] = greater
        partners[greater] = lesser
    if len(partners) != len(leaves):
        raise WrongLinks()
    return [partners[leaf] for leaf in range(len(leaves))]


def read_structure(text):
    parts = parted(text, SEMICOLON)
    if len(parts) != 3:
        raise NoText()
    conclusions = read_sequent(parts[0])
    cuts = read_sequent(parts[1])
    pairs = read_links(parts[2])
    if not all([in_bounds(formula) for formula in conclusions + cuts]):
        raise OutOfBounds()
    leaves = all_leaves(conclusions, cuts)
    if len(leaves) > MOST_LEAVES:
        raise TooManyLeaves()
    return Structure(conclusions, cuts, partners_of(pairs, leaves))
