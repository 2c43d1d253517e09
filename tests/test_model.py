"""The program beside a second one, written another way: by recursion over trees, with atoms that are objects.

Made-up lines are answered by both. The numbers they are made of are the same at each run.
"""

import random
import re
import unittest

from cutnets.nets import answers
from lines import NEW, line

TOKEN = re.compile(r" *(?:([a-z][a-z0-9]{0,11}(?![a-z0-9]))|(-o|[~*|()]))")


SPOILERS = ("", "", " ", "~", "*", "|", "(", ")", "-o", "-", "a", "b", "0", "1", ",", ";", "A")


class Refused(Exception):
    pass


class Atom:
    def __init__(self, name, turned):
        self.name, self.turned, self.partner = name, turned, None


def dual(tree):
    if isinstance(tree, Atom):
        return Atom(tree.name, not tree.turned)
    return ("|" if tree[0] == "*" else "*", dual(tree[1]), dual(tree[2]))


def atoms(tree):
    return [tree] if isinstance(tree, Atom) else atoms(tree[1]) + atoms(tree[2])


def depth(tree):
    return 1 if isinstance(tree, Atom) else 1 + max(depth(tree[1]), depth(tree[2]))


def form(tree, around=None):
    if isinstance(tree, Atom):
        return "~" * tree.turned + tree.name
    text = form(tree[1], "first") + tree[0] + form(tree[2], tree[0])
    return text if around in (None, tree[0]) else f"({text})"


class Parser:
    def __init__(self, text):
        if len(text) > 2000:
            raise Refused(-1)
        self.tokens, place = [], 0
        while text[place:].strip(" "):
            found = TOKEN.match(text, place)
            if not found:
                raise Refused(-1)
            self.tokens.append(found.group().strip(" "))
            place = found.end()
        self.tokens.append("end")

    def taken(self, *wanted):
        if self.tokens[0] not in wanted:
            return None
        return self.tokens.pop(0)

    def whole(self):
        tree = self.formula(0)
        if self.tokens != ["end"]:
            raise Refused(-1)
        return tree

    def formula(self, within):
        first = self.chain(within, "*|")
        if not self.taken("-o"):
            return first
        return ("|", dual(first), self.formula(within + 1))

    def chain(self, within, signs):
        first = self.part(within)
        sign = self.taken(*signs)
        return (sign, first, self.chain(within + 1, sign)) if sign else first

    def part(self, within):
        if within > 100:
            raise Refused(-1)
        if self.taken("~"):
            return dual(self.part(within + 1))
        if self.taken("("):
            tree = self.formula(within + 1)
            if not self.taken(")"):
                raise Refused(-1)
            return tree
        token = self.tokens.pop(0)
        if not token[0].islower() or token == "end":
            raise Refused(-1)
        return Atom(token, False)


def sequent(text):
    if not text.strip(" "):
        return []
    parts = text.split(",")
    if len(parts) > 20:
        raise Refused(-1)
    return [Parser(part).whole() for part in parts]


def read(text):
    if text.count(";") != 2:
        raise Refused(-1)
    first, second, third = text.split(";")
    conclusions, cuts = sequent(first), sequent(second)
    third = third.strip(" ")
    if third and not re.fullmatch(r"(0|[1-9][0-9]*)-(0|[1-9][0-9]*)( (0|[1-9][0-9]*)-(0|[1-9][0-9]*))*", third):
        raise Refused(-1)
    pairs = [tuple(int(number) for number in pair.split("-")) for pair in third.split()]
    lesser = [pair[0] for pair in pairs]
    if any(pair[0] >= pair[1] for pair in pairs) or lesser != sorted(set(lesser)):
        raise Refused(-1)
    if any(len(atoms(tree)) > 60 or depth(tree) > 40 for tree in conclusions + cuts):
        raise Refused(-6)
    model = Model(conclusions, [(tree, dual(tree)) for tree in cuts])
    leaves = model.leaves()
    if len(leaves) > 120:
        raise Refused(-5)
    if sorted(number for pair in pairs for number in pair) != list(range(len(leaves))):
        raise Refused(-3)
    for one, other in ((leaves[pair[0]], leaves[pair[1]]) for pair in pairs):
        if one.name != other.name or one.turned == other.turned:
            raise Refused(-3)
        one.partner, other.partner = other, one
    return model


class Model:
    def __init__(self, conclusions, cuts):
        self.conclusions, self.cuts = conclusions, cuts

    def leaves(self):
        trees = self.conclusions + [tree for cut in self.cuts for tree in cut]
        return [atom for tree in trees for atom in atoms(tree)]

    def form(self):
        leaves = self.leaves()
        numbers = {atom: number for number, atom in enumerate(leaves)}
        pairs = [(number, numbers[atom.partner]) for number, atom in enumerate(leaves)]
        parts = [", ".join(map(form, self.conclusions)), ", ".join(form(cut[0]) for cut in self.cuts),
                 " ".join(f"{low}-{high}" for low, high in pairs if low < high)]
        return " ; ".join(parts)

    def count(self):
        return sum(2 * len(atoms(cut[0])) - 1 for cut in self.cuts)

    def step(self, k):
        """Whether the step was done."""
        one, other = self.cuts[k]
        if not isinstance(one, Atom):
            self.cuts[k:k + 1] = [(one[1], other[1]), (one[2], other[2])]
            return True
        if one.partner is other:
            return False
        one.partner.partner, other.partner.partner = other.partner, one.partner
        self.cuts[k:k + 1] = []
        return True


def model_answer(held, name, given):
    model = held[0]
    if name == "set":
        held[0] = read(given)
        return [len(held[0].leaves())]
    if name == "form":
        text = model.form()
        return [len(text)] + [ord(letter) for letter in text]
    if name == "cuts":
        return [len(model.cuts)] + [number for cut in model.cuts
                                    for number in (int(not isinstance(cut[0], Atom)), len(atoms(cut[0])))]
    if name == "step":
        if not 0 <= given < len(model.cuts):
            raise Refused(-4)
        if not model.step(given):
            raise Refused(-9)
    if name == "steps":
        if any(choice < 0 for choice in given):
            raise Refused(-2)
        done = [bool(model.cuts) and model.step(choice % len(model.cuts)) for choice in given]
        return [done.count(True), len(model.cuts)]
    return [model.count()]


def model_answers(calls):
    held = [read(NEW)]
    numbers = []
    for call in calls:
        try:
            answered = model_answer(held, call[0], call[-1])
        except Refused as refused:
            answered = [refused.args[0]]
        numbers += [len(answered)] + answered
    return numbers


class Maker:
    def __init__(self, seed):
        self.source = random.Random(seed)

    def blanks(self):
        return " " * self.source.choice((0, 0, 0, 1, 2))

    def tree(self, leaves):
        """A tree of these (name, turned) in this order."""
        if len(leaves) == 1:
            return Atom(*leaves[0])
        middle = self.source.randrange(1, len(leaves))
        return (self.source.choice("*|"), self.tree(leaves[:middle]), self.tree(leaves[middle:]))

    def written(self, tree, chained=None):
        """A text that is read as this tree; chained tells the chain in which it stands last."""
        choice = self.source.randrange(8)
        if choice == 0:
            text = "~" + self.blanks() + self.written(dual(tree), "part")
        elif isinstance(tree, Atom):
            text = "~" * tree.turned + self.blanks() + tree.name
        elif choice == 1 and tree[0] == "|":
            text = self.written(dual(tree[1]), "part") + self.blanks() + "-o" + self.blanks() + self.written(tree[2])
            return text if chained is None else f"({text})"
        else:
            text = self.written(tree[1], "part") + self.blanks() + tree[0]
            text += self.blanks() + self.written(tree[2], tree[0])
            return text if chained in (None, tree[0]) else f"({self.blanks()}{text})"
        return self.blanks() + text + self.blanks()

    def parted(self, leaves):
        trees = []
        while leaves:
            size = self.source.randrange(1, min(6, len(leaves)) + 1)
            trees.append(self.tree(leaves[:size]))
            leaves = leaves[size:]
        return trees

    def links(self, leaves):
        """A pairing of the leaves, as text; what finds no partner is left out."""
        rest = list(range(len(leaves)))
        self.source.shuffle(rest)
        pairs = []
        while rest:
            one = rest.pop()
            fits = [k for k in rest if leaves[k].name == leaves[one].name and leaves[k].turned != leaves[one].turned]
            if fits:
                rest.remove(fits[0])
                pairs.append((min(one, fits[0]), max(one, fits[0])))
        return " ".join(f"{low}-{high}" for low, high in sorted(pairs))

    def structure(self):
        names = ("a", "b", "o2")[:self.source.randrange(1, 4)]
        ends = [(self.source.choice(names), False) for k in range(self.source.randrange(8))]
        ends += [(name, True) for name, turned in ends]
        self.source.shuffle(ends)
        conclusions = self.parted(ends)
        kinds = [(name, turned) for name in names for turned in (False, True)]
        sides = [self.source.choice(kinds) for k in range(self.source.randrange(14))]
        cuts = self.parted(sides)
        model = Model(conclusions, [(tree, dual(tree)) for tree in cuts])
        parts = [",".join(map(self.written, conclusions)), ",".join(map(self.written, cuts))]
        return ";".join(parts + [self.links(model.leaves())])

    def spoilt(self, text):
        for k in range(self.source.randrange(1, 3)):
            place = self.source.randrange(len(text) + 1)
            put = self.source.choice(SPOILERS)
            text = text[:place] + put + text[place + self.source.randrange(2):]
        return text

    def call(self):
        choice = self.source.randrange(10)
        if choice < 2:
            return ("set", self.structure())
        if choice < 3:
            return ("set", self.spoilt(self.structure()))
        if choice < 6:
            return ("step", self.source.choice((-1, 0, 0, 1, 1, 2, 3, 4, 5, 6, 10 ** 18)))
        if choice < 7:
            return ("steps", [self.source.choice((0, 1, 2, 5, 77, 10 ** 18)) for k in range(self.source.randrange(12))])
        if choice < 8:
            return ("steps", [0, self.source.choice((-1, -10 ** 18, 1)), 3])
        return self.source.choice([("cuts",), ("count",)])

    def calls(self):
        calls = [("set", self.structure())]
        for k in range(20):
            calls += [self.call(), ("form",)]
        return calls


class Beside(unittest.TestCase):
    def test_made_up_lines(self):
        for seed in range(400):
            calls = Maker(seed).calls()
            self.assertEqual(model_answers(calls), answers(line(*calls)), calls)

    def test_made_up_texts_are_taken(self):
        for seed in range(400):
            text = Maker(seed).structure()
            self.assertGreaterEqual(answers(line(("set", text)))[1], 0, text)

    def test_texts_of_chance(self):
        source = random.Random(1)
        for k in range(4000):
            pieces = [source.choice(("a", "b", "~", "*", "|", "(", ")", "-o", " ")) for k in range(source.randrange(9))]
            text = "".join(pieces)
            calls = []
            for links in ("", " 0-1", "0-2 1-3"):
                calls += [("set", f"; {text} ;{links}"), ("form",)]
            self.assertEqual(model_answers(calls), answers(line(*calls)), text)


if __name__ == "__main__":
    unittest.main()
