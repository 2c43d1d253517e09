"""Lines of calls written with names and texts, and their answers taken apart call by call."""

from cutnets.nets import answers

NUMBERS = {"set": 0, "form": 1, "cuts": 2, "count": 3, "step": 4, "steps": 5, "finish": 6, "normal": 7, "walk": 8,
           "draw": 9, "join": 10, "bend": 11}
NEW = "a, ~a ; a ; 0-3 1-2"


def row(values):
    values = [ord(letter) for letter in values] if isinstance(values, str) else list(values)
    return [len(values)] + values


def line(*calls):
    numbers = []
    for call in calls:
        numbers.append(NUMBERS[call[0]])
        for given in call[1:]:
            numbers.extend([given] if isinstance(given, int) else row(given))
    return numbers


def taken_apart(numbers):
    found = []
    place = 0
    while place < len(numbers):
        end = place + 1 + numbers[place]
        found.append(numbers[place + 1:end])
        place = end
    assert place == len(numbers), "the last answer is shorter than told"
    return found


def run(*calls):
    found = taken_apart(answers(line(*calls)))
    assert len(found) == len(calls), "a call has no answer, or more than one"
    return found


def told(answer):
    assert answer[0] == len(answer) - 1, "the number of bytes is wrong"
    return "".join(chr(byte) for byte in answer[1:])


def set_answer(text):
    return run(("set", text))[0]


def form_behind(*calls):
    return told(run(*calls, ("form",))[-1])


def own_links(atoms, start=0):
    """The links that join each atom of a cut to the one of its dual that stands at the same place."""
    return " ".join(f"{start + k}-{start + atoms + k}" for k in range(atoms))


def cut_text(formula, atoms):
    return f";{formula};{own_links(atoms)}"


def pairs_text(pairs):
    return " ".join(f"{low}-{high}" for low, high in sorted(pairs))


def row_of_cuts(cuts, conclusions=2):
    """A walk goes from conclusion 0 to conclusion 1 over all cuts; the other conclusions are linked two by two.

    The leaves of cut k are conclusions + 2k and conclusions + 2k + 1.
    """
    first, last = conclusions, conclusions + 2 * cuts - 2
    pairs = [(0, first + 1), (1, last)] + [(leaf, leaf + 3) for leaf in range(first, last, 2)]
    pairs += [(leaf, leaf + 1) for leaf in range(2, conclusions, 2)]
    return ", ".join(["a", "~a"] * (conclusions // 2)) + " ; " + ", ".join(["a"] * cuts) + " ; " + pairs_text(pairs)


def known(*calls):
    """All that can be asked without a change, behind these calls."""
    asked = [("form",), ("cuts",), ("count",), ("normal",), ("draw",)] + [("walk", leaf) for leaf in range(121)]
    return run(*calls, *asked)[len(calls):]
