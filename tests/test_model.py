"""The program beside a second one, written another way: by recursion over trees, with atoms that are objects.

The normal structure is found by steps at a copy, and whether a structure draws together by its switchings: each par
keeps the edge to one of its two formulas, and whichever is chosen, all points must hang together without a circle.

Made-up lines are answered by both. The numbers they are made of are the same at each run.
"""

import collections
import copy
import itertools
import random
import re
import unittest

from cutnets.nets import answers
from lines import NEW, NUMBERS, line, taken_apart

TOKEN = re.compile(r" *(?:([a-z][a-z0-9]{0,11}(?![a-z0-9]))|(-o|[~*|()]))")


SPOILERS = ("", "", " ", "~", "*", "|", "(", ")", "-o", "-", "a", "b", "0", "1", ",", ";", "A")


class Refused(Exception):
    pass


class Atom:
    def __init__(self, name, turned):
        self.name, self.turned, self.partner = name, turned, None


def dual(tree):
    if isinstance(tree, Atom):
        return Atom(tree.name, not tree.turned)
    return ("|" if tree[0] == "*" else "*", dual(tree[1]), dual(tree[2]))


def atoms(tree):
    return [tree] if isinstance(tree, Atom) else atoms(tree[1]) + atoms(tree[2])


def depth(tree):
    return 1 if isinstance(tree, Atom) else 1 + max(depth(tree[1]), depth(tree[2]))


def same(one, other):
    if isinstance(one, Atom) or isinstance(other, Atom):
        return isinstance(one, Atom) and isinstance(other, Atom) and form(one) == form(other)
    return one[0] == other[0] and same(one[1], other[1]) and same(one[2], other[2])


def hang_together(points, edges):
    """Whether there's a way from each point to each other one, and just one."""
    if len(edges) != points - 1:
        return False
    beside = collections.defaultdict(list)
    for one, other in edges:
        beside[one].append(other)
        beside[other].append(one)
    seen, rest = {0}, [0]
    while rest:
        for point in beside[rest.pop()]:
            if point not in seen:
                seen.add(point)
                rest.append(point)
    return len(seen) == points


def form(tree, around=None):
    if isinstance(tree, Atom):
        return "~" * tree.turned + tree.name
    text = form(tree[1], "first") + tree[0] + form(tree[2], tree[0])
    return text if around in (None, tree[0]) else f"({text})"


class Parser:
    def __init__(self, text):
        if len(text) > 2000:
            raise Refused(-1)
        self.tokens, place = [], 0
        while text[place:].strip(" "):
            found = TOKEN.match(text, place)
            if not found:
                raise Refused(-1)
            self.tokens.append(found.group().strip(" "))
            place = found.end()
        self.tokens.append("end")

    def taken(self, *wanted):
        if self.tokens[0] not in wanted:
            return None
        return self.tokens.pop(0)

    def whole(self):
        tree = self.formula(0)
        if self.tokens != ["end"]:
            raise Refused(-1)
        return tree

    def formula(self, within):
        first = self.chain(within, "*|")
        if not self.taken("-o"):
            return first
        return ("|", dual(first), self.formula(within + 1))

    def chain(self, within, signs):
        first = self.part(within)
        sign = self.taken(*signs)
        return (sign, first, self.chain(within + 1, sign)) if sign else first

    def part(self, within):
        if within > 100:
            raise Refused(-1)
        if self.taken("~"):
            return dual(self.part(within + 1))
        if self.taken("("):
            tree = self.formula(within + 1)
            if not self.taken(")"):
                raise Refused(-1)
            return tree
        token = self.tokens.pop(0)
        if not token[0].islower() or token == "end":
            raise Refused(-1)
        return Atom(token, False)


def sequent(text):
    if not text.strip(" "):
        return []
    parts = text.split(",")
    if len(parts) > 20:
        raise Refused(-1)
    return [Parser(part).whole() for part in parts]


def read(text):
    if text.count(";") != 2:
        raise Refused(-1)
    first, second, third = text.split(";")
    conclusions, cuts = sequent(first), sequent(second)
    third = third.strip(" ")
    if third and not re.fullmatch(r"(0|[1-9][0-9]*)-(0|[1-9][0-9]*)( (0|[1-9][0-9]*)-(0|[1-9][0-9]*))*", third):
        raise Refused(-1)
    pairs = [tuple(int(number) for number in pair.split("-")) for pair in third.split()]
    lesser = [pair[0] for pair in pairs]
    if any(pair[0] >= pair[1] for pair in pairs) or lesser != sorted(set(lesser)):
        raise Refused(-1)
    if any(len(atoms(tree)) > 60 or depth(tree) > 40 for tree in conclusions + cuts):
        raise Refused(-6)
    model = Model(conclusions, [(tree, dual(tree)) for tree in cuts])
    leaves = model.leaves()
    if len(leaves) > 120:
        raise Refused(-5)
    if sorted(number for pair in pairs for number in pair) != list(range(len(leaves))):
        raise Refused(-3)
    for one, other in ((leaves[pair[0]], leaves[pair[1]]) for pair in pairs):
        if one.name != other.name or one.turned == other.turned:
            raise Refused(-3)
        one.partner, other.partner = other, one
    return model


class Model:
    def __init__(self, conclusions, cuts):
        self.conclusions, self.cuts = conclusions, cuts

    def leaves(self):
        trees = self.conclusions + [tree for cut in self.cuts for tree in cut]
        return [atom for tree in trees for atom in atoms(tree)]

    def form(self):
        leaves = self.leaves()
        numbers = {atom: number for number, atom in enumerate(leaves)}
        pairs = [(number, numbers[atom.partner]) for number, atom in enumerate(leaves)]
        parts = [", ".join(map(form, self.conclusions)), ", ".join(form(cut[0]) for cut in self.cuts),
                 " ".join(f"{low}-{high}" for low, high in pairs if low < high)]
        return " ; ".join(parts)

    def count(self):
        return sum(2 * len(atoms(cut[0])) - 1 for cut in self.cuts)

    def step(self, k):
        """Whether the step was done."""
        one, other = self.cuts[k]
        if not isinstance(one, Atom):
            self.cuts[k:k + 1] = [(one[1], other[1]), (one[2], other[2])]
            return True
        if one.partner is other:
            return False
        one.partner.partner, other.partner.partner = other.partner, one.partner
        self.cuts[k:k + 1] = []
        return True

    def finish(self, w):
        done = 0
        while any(self.step(k) for k in (range(len(self.cuts)) if w == 0 else reversed(range(len(self.cuts))))):
            done += 1
        return done

    def walk(self, leaf):
        """The atom where the walk from this one ends and over how many cuts it went, or None if it never ends."""
        over = {}
        for cut in self.cuts:
            for one, other in zip(atoms(cut[0]), atoms(cut[1])):
                over[one], over[other] = other, one
        for crossed in range(len(over) + 1):
            leaf = leaf.partner
            if leaf not in over:
                return leaf, crossed
            leaf = over[leaf]
        return None

    def draw(self):
        numbers = {}
        edges, pars = [], []

        def point(tree):
            number = numbers.setdefault(id(tree), len(numbers))
            if not isinstance(tree, Atom):
                first, second = point(tree[1]), point(tree[2])
                if tree[0] == "*":
                    edges.extend([(number, first), (number, second)])
                else:
                    pars.append([(number, first), (number, second)])
            return number

        for tree in self.conclusions:
            point(tree)
        for one, other in self.cuts:
            edges.append((point(one), point(other)))
        leaves = self.leaves()
        edges.extend((numbers[id(leaf)], numbers[id(leaf.partner)])
                     for place, leaf in enumerate(leaves) if leaf.partner in leaves[:place])
        return all(hang_together(len(numbers), edges + list(chosen)) for chosen in itertools.product(*pars))

    def bend(self, i, j):
        if not (0 <= i < len(self.conclusions) and 0 <= j < len(self.conclusions)):
            raise Refused(-4)
        one, other = self.conclusions[i], self.conclusions[j]
        if i == j or not same(dual(one), other):
            raise Refused(-8)
        for k in sorted([i, j], reverse=True):
            self.conclusions.pop(k)
        self.cuts.append((one, other))

    def join(self, i, j, other):
        if not (0 <= i < len(self.conclusions) and 0 <= j < len(other.conclusions)):
            raise Refused(-4)
        if not same(dual(self.conclusions[i]), other.conclusions[j]):
            raise Refused(-8)
        if len(self.leaves()) + len(other.leaves()) > 120:
            raise Refused(-5)
        cut = (self.conclusions.pop(i), other.conclusions.pop(j))
        self.conclusions += other.conclusions
        self.cuts += other.cuts + [cut]


def bytes_answer(text):
    return [len(text)] + [ord(letter) for letter in text]


def normal_answer(model):
    model = copy.deepcopy(model)
    model.finish(0)
    if model.cuts:
        raise Refused(-9)
    return bytes_answer(model.form())


def walk_answer(model, i):
    leaves = model.leaves()
    if not 0 <= i < len(leaves):
        raise Refused(-4)
    found = model.walk(leaves[i])
    if found is None:
        raise Refused(-9)
    return [leaves.index(found[0]), found[1]]


def later_answer(model, name, given):
    """What the calls from finish on answer."""
    if name == "finish":
        if given[0] not in (0, 1):
            raise Refused(-2)
        return [model.finish(given[0]), len(model.cuts)]
    if name == "normal":
        return normal_answer(model)
    if name == "walk":
        return walk_answer(model, given[0])
    if name == "draw":
        return [int(model.draw())]
    if name == "join":
        model.join(given[0], given[1], read(given[2]))
    if name == "bend":
        model.bend(given[0], given[1])
    return [len(model.cuts)]


def model_answer(held, name, *all_given):
    model = held[0]
    if name in ("finish", "normal", "walk", "draw", "join", "bend"):
        return later_answer(model, name, all_given)
    given = all_given[0] if all_given else None
    if name == "set":
        held[0] = read(given)
        return [len(held[0].leaves())]
    if name == "form":
        return bytes_answer(model.form())
    if name == "cuts":
        return [len(model.cuts)] + [number for cut in model.cuts
                                    for number in (int(not isinstance(cut[0], Atom)), len(atoms(cut[0])))]
    if name == "step":
        if not 0 <= given < len(model.cuts):
            raise Refused(-4)
        if not model.step(given):
            raise Refused(-9)
    if name == "steps":
        if any(choice < 0 for choice in given):
            raise Refused(-2)
        done = [bool(model.cuts) and model.step(choice % len(model.cuts)) for choice in given]
        return [done.count(True), len(model.cuts)]
    return [model.count()]


def answered(held, call):
    try:
        return model_answer(held, *call)
    except Refused as refused:
        return [refused.args[0]]


def model_answers(calls):
    held = [read(NEW)]
    numbers = []
    for call in calls:
        found = answered(held, call)
        numbers += [len(found)] + found
    return numbers


def linked(one, other):
    """The two trees, of which each is the dual of the other one, with their atoms linked one by one."""
    for first, second in zip(atoms(one), atoms(other)):
        first.partner, second.partner = second, first
    return Model([one, other], [])


class Maker:
    def __init__(self, seed):
        self.source = random.Random(seed)

    def blanks(self):
        return " " * self.source.choice((0, 0, 0, 1, 2))

    def tree(self, leaves):
        """A tree of these (name, turned) in this order."""
        if len(leaves) == 1:
            return Atom(*leaves[0])
        middle = self.source.randrange(1, len(leaves))
        return (self.source.choice("*|"), self.tree(leaves[:middle]), self.tree(leaves[middle:]))

    def written(self, tree, chained=None):
        """A text that is read as this tree; chained tells the chain in which it stands last."""
        choice = self.source.randrange(8)
        if choice == 0:
            text = "~" + self.blanks() + self.written(dual(tree), "part")
        elif isinstance(tree, Atom):
            text = "~" * tree.turned + self.blanks() + tree.name
        elif choice == 1 and tree[0] == "|":
            text = self.written(dual(tree[1]), "part") + self.blanks() + "-o" + self.blanks() + self.written(tree[2])
            return text if chained is None else f"({text})"
        else:
            text = self.written(tree[1], "part") + self.blanks() + tree[0]
            text += self.blanks() + self.written(tree[2], tree[0])
            return text if chained in (None, tree[0]) else f"({self.blanks()}{text})"
        return self.blanks() + text + self.blanks()

    def parted(self, leaves):
        trees = []
        while leaves:
            size = self.source.randrange(1, min(6, len(leaves)) + 1)
            trees.append(self.tree(leaves[:size]))
            leaves = leaves[size:]
        return trees

    def links(self, leaves):
        """A pairing of the leaves, as text; what finds no partner is left out."""
        rest = list(range(len(leaves)))
        self.source.shuffle(rest)
        pairs = []
        while rest:
            one = rest.pop()
            fits = [k for k in rest if leaves[k].name == leaves[one].name and leaves[k].turned != leaves[one].turned]
            if fits:
                rest.remove(fits[0])
                pairs.append((min(one, fits[0]), max(one, fits[0])))
        return " ".join(f"{low}-{high}" for low, high in sorted(pairs))

    def structure(self):
        names = ("a", "b", "o2")[:self.source.randrange(1, 4)]
        ends = [(self.source.choice(names), False) for k in range(self.source.randrange(8))]
        ends += [(name, True) for name, turned in ends]
        self.source.shuffle(ends)
        conclusions = self.parted(ends)
        kinds = [(name, turned) for name in names for turned in (False, True)]
        sides = [self.source.choice(kinds) for k in range(self.source.randrange(14))]
        cuts = self.parted(sides)
        model = Model(conclusions, [(tree, dual(tree)) for tree in cuts])
        parts = [",".join(map(self.written, conclusions)), ",".join(map(self.written, cuts))]
        return ";".join(parts + [self.links(model.leaves())])

    def taken(self, model):
        return model.conclusions.pop(self.source.randrange(len(model.conclusions)))

    def grown(self, model):
        """The net with one rule more: a tensor or a cut with another one, or a par."""
        choice = self.source.randrange(4)
        if choice == 0 and len(model.conclusions) > 1:
            return Model(model.conclusions + [("|", self.taken(model), self.taken(model))], model.cuts)
        first = self.taken(model)
        if choice < 3:
            other = linked(Atom(self.source.choice("ab"), False), Atom("", True))
            other.conclusions[1].name = other.conclusions[0].name
            new = ("*", first, self.taken(other))
            return Model(model.conclusions + other.conclusions + [new], model.cuts + other.cuts)
        other = linked(dual(first), dual(dual(first)))
        cut = (first, other.conclusions.pop(0))
        return Model(other.conclusions + model.conclusions, [cut] + model.cuts)

    def net(self, start, rules, leaves=30):
        """A net with this tree, its dual or what comes of it among the conclusions; of more leaves it does not grow."""
        model = linked(start, dual(start))
        for k in range(rules):
            if len(model.leaves()) < leaves:
                model = self.grown(model)
        self.source.shuffle(model.conclusions)
        return model

    def crossed(self, model):
        """Two links of one name change their ends."""
        leaves = model.leaves()
        plain = [leaf for leaf in leaves if not leaf.turned]
        one = self.source.choice(plain)
        other = self.source.choice([leaf for leaf in plain if leaf.name == one.name])
        one.partner, other.partner = other.partner, one.partner
        one.partner.partner, other.partner.partner = one, other
        return model

    def text_of(self, model):
        parts = [",".join(map(self.written, model.conclusions)), ",".join(self.written(cut[0]) for cut in model.cuts)]
        return ";".join(parts + [model.form().split(";")[2]])

    def net_text(self):
        model = self.net(Atom("a", self.source.random() < 0.5), self.source.randrange(12))
        return self.text_of(model if self.source.randrange(3) else self.crossed(model))

    def spoilt(self, text):
        for k in range(self.source.randrange(1, 3)):
            place = self.source.randrange(len(text) + 1)
            put = self.source.choice(SPOILERS)
            text = text[:place] + put + text[place + self.source.randrange(2):]
        return text

    def call(self):
        choice = self.source.randrange(10)
        if choice < 2:
            return ("set", self.structure())
        if choice < 3:
            return ("set", self.spoilt(self.structure()))
        if choice < 6:
            return ("step", self.source.choice((-1, 0, 0, 1, 1, 2, 3, 4, 5, 6, 10 ** 18)))
        if choice < 7:
            return ("steps", [self.source.choice((0, 1, 2, 5, 77, 10 ** 18)) for k in range(self.source.randrange(12))])
        if choice < 8:
            return ("steps", [0, self.source.choice((-1, -10 ** 18, 1)), 3])
        return self.source.choice([("cuts",), ("count",)])

    def calls(self):
        calls = [("set", self.structure())]
        for k in range(20):
            calls += [self.call(), ("form",)]
        return calls

    def place(self, values):
        """Mostly the number of one of them."""
        if values and self.source.randrange(12):
            return self.source.randrange(len(values))
        return self.source.choice((-1, len(values), len(values) + 1, -10 ** 18, 10 ** 18))

    def bend_call(self, model):
        trees = model.conclusions
        fits = [(i, j) for i, one in enumerate(trees) for j, other in enumerate(trees) if same(dual(one), other)]
        if fits and self.source.randrange(3):
            return ("bend",) + self.source.choice(fits)
        return ("bend", self.place(trees), self.place(trees))

    def join_call(self, model):
        i = self.place(model.conclusions)
        if not 0 <= i < len(model.conclusions):
            return ("join", i, self.source.choice((0, -1)), self.source.choice((self.structure(), self.net_text())))
        tree = dual(model.conclusions[i])
        other = self.net(tree, self.source.randrange(5))
        fits = [j for j, one in enumerate(other.conclusions) if same(one, tree)]
        j = fits[0] if fits and self.source.randrange(8) else self.place(other.conclusions)
        text = self.text_of(other)
        return ("join", i, j, text if self.source.randrange(10) else self.spoilt(text))

    def later_call(self, model):
        """A call of any kind, chosen so that it is mostly not refused by this structure."""
        choice = self.source.randrange(24)
        if choice < 3:
            return ("set", self.source.choice((self.structure(), self.net_text())))
        if choice < 6:
            return self.call()
        if choice < 9:
            return ("step", self.place(model.cuts))
        if choice < 10:
            return ("finish", self.source.choice((0, 0, 1, 1, 2, -1, 10 ** 18)))
        if choice < 13:
            return ("walk", self.place(model.leaves()))
        if choice < 16:
            return self.bend_call(model)
        if choice < 21:
            return self.join_call(model)
        return self.source.choice([("normal",), ("draw",), ("draw",), ("cuts",), ("count",)])

    def later_calls(self):
        held = [read(NEW)]
        calls = [("set", self.net_text())]
        answered(held, calls[0])
        for k in range(24):
            call = self.later_call(held[0])
            if call[0] != "draw":
                answered(held, call)
            calls += [call, self.source.choice((("form",), ("form",), ("normal",)))]
        return calls


class Beside(unittest.TestCase):
    def test_made_up_lines(self):
        for seed in range(400):
            calls = Maker(seed).calls()
            self.assertEqual(model_answers(calls), answers(line(*calls)), calls)

    def test_made_up_lines_of_all_twelve_calls(self):
        told = collections.Counter()
        for seed in range(250):
            calls = Maker(seed).later_calls()
            wanted = model_answers(calls)
            self.assertEqual(wanted, answers(line(*calls)), calls)
            told.update((call[0], min(found[0], 1)) for call, found in zip(calls, taken_apart(wanted)))
        # Each call is taken often, and each refusal is met.
        self.assertLess(50, min(told[name, 1] for name in NUMBERS), told)
        refusals = [("set", -1), ("step", -4), ("step", -9), ("steps", -2), ("finish", -2), ("normal", -9),
                    ("walk", -4), ("walk", -9), ("draw", 0), ("join", -1), ("join", -3), ("join", -4), ("join", -8),
                    ("bend", -4), ("bend", -8)]
        self.assertLess(5, min(told[refusal] for refusal in refusals), told)

    def test_made_up_joins_of_many_leaves(self):
        told = collections.Counter()
        for seed in range(60):
            maker = Maker(seed)
            held = [maker.net(Atom("a", False), 40, 60)]
            calls = [("set", maker.text_of(held[0]))]
            for k in range(20):
                call = maker.source.choice((maker.join_call, maker.join_call, maker.bend_call))(held[0])
                told[call[0], answered(held, call)[0]] += 1
                calls += [call, ("form",), ("normal",), ("walk", maker.place(held[0].leaves()))]
            self.assertEqual(model_answers(calls), answers(line(*calls)), calls)
        self.assertLess(20, told["join", -5], told)

    def test_every_walk_of_made_up_structures(self):
        for seed in range(200):
            maker = Maker(seed)
            for text in (maker.structure(), maker.net_text()):
                calls = [("set", text), ("normal",), ("draw",)] + [("walk", leaf) for leaf in range(50)]
                self.assertEqual(model_answers(calls), answers(line(*calls)), text)

    def test_made_up_nets(self):
        """A net draws together whatever is done at its cuts, and none of its cuts gets stuck."""
        for seed in range(200):
            maker = Maker(seed)
            text = maker.text_of(maker.net(Atom("b", False), 12))
            calls = [("set", text), ("draw",), ("count",), ("steps", [seed, 3 * seed, 7 * seed]), ("draw",),
                     ("normal",), ("finish", seed % 2), ("draw",), ("form",)]
            found = taken_apart(answers(line(*calls)))
            self.assertEqual([[1]] * 3, found[1:8:3], text)
            self.assertEqual([found[2][0] - found[3][0], 0], found[6], text)
            self.assertEqual(found[5], found[8], text)

    def test_made_up_texts_are_taken(self):
        for seed in range(400):
            text = Maker(seed).structure()
            self.assertGreaterEqual(answers(line(("set", text)))[1], 0, text)
            text = Maker(seed).net_text()
            self.assertGreater(answers(line(("set", text)))[1], 0, text)

    def test_texts_of_chance(self):
        source = random.Random(1)
        for k in range(4000):
            pieces = [source.choice(("a", "b", "~", "*", "|", "(", ")", "-o", " ")) for k in range(source.randrange(9))]
            text = "".join(pieces)
            calls = []
            for links in ("", " 0-1", "0-2 1-3"):
                calls += [("set", f"; {text} ;{links}"), ("form",)]
            self.assertEqual(model_answers(calls), answers(line(*calls)), text)


if __name__ == "__main__":
    unittest.main()
