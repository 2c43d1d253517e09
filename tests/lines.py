"""Lines of calls written with names and texts, and their answers taken apart call by call."""

from cutnets.nets import answers

NUMBERS = {"set": 0, "form": 1, "cuts": 2, "count": 3, "step": 4, "steps": 5}
NEW = "a, ~a ; a ; 0-3 1-2"


def row(values):
    values = [ord(letter) for letter in values] if isinstance(values, str) else list(values)
    return [len(values)] + values


def line(*calls):
    numbers = []
    for call in calls:
        numbers.append(NUMBERS[call[0]])
        for given in call[1:]:
            numbers.extend([given] if isinstance(given, int) else row(given))
    return numbers


def taken_apart(numbers):
    found = []
    place = 0
    while place < len(numbers):
        end = place + 1 + numbers[place]
        found.append(numbers[place + 1:end])
        place = end
    assert place == len(numbers), "the last answer is shorter than told"
    return found


def run(*calls):
    found = taken_apart(answers(line(*calls)))
    assert len(found) == len(calls), "a call has no answer, or more than one"
    return found


def told(answer):
    assert answer[0] == len(answer) - 1, "the number of bytes is wrong"
    return "".join(chr(byte) for byte in answer[1:])


def set_answer(text):
    return run(("set", text))[0]


def form_behind(*calls):
    return told(run(*calls, ("form",))[-1])


def own_links(atoms, start=0):
    """The links that join each atom of a cut to the one of its dual that stands at the same place."""
    return " ".join(f"{start + k}-{start + atoms + k}" for k in range(atoms))


def cut_text(formula, atoms):
    return f";{formula};{own_links(atoms)}"
