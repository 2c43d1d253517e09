"""The calls on one object, one behind another, and what they answer."""

from cutnets.drawing import draws_together
from cutnets.formulas import atom_count, is_atom
from cutnets.new_cuts import bent, joined
from cutnets.refusals import NotThere, OutOfRange, Refusal, Stuck
from cutnets.steps import after_all_steps, after_step, is_stuck, steps_left
from cutnets.structure_reading import read_structure
from cutnets.structures import structure_form
from cutnets.texts import bytes_of
from cutnets.walks import leaves_over_cuts, normal_structure, walk_from

FIRST_TEXT = "a, ~a ; a ; 0-3 1-2"


class Line:
    def __init__(self, calls):
        self.calls = calls
        self.place = 0

    def is_done(self):
        return self.place == len(self.calls)

    def take_number(self):
        self.place += 1
        return self.calls[self.place - 1]

    def take_row(self):
        length = self.take_number()
        self.place += length
        return self.calls[self.place - length:self.place]


class Holder:
    def __init__(self):
        self.structure = read_structure(bytes_of(FIRST_TEXT))


def form_answer(structure):
    form = structure_form(structure)
    return [len(form)] + form


def call_set(holder, line):
    holder.structure = read_structure(line.take_row())
    return [len(holder.structure.partners)]


def call_form(holder, line):
    return form_answer(holder.structure)


def call_cuts(holder, line):
    numbers = [len(holder.structure.cuts)]
    for cut in holder.structure.cuts:
        numbers.append(0 if is_atom(cut) else 1)
        numbers.append(atom_count(cut))
    return numbers


def call_count(holder, line):
    return [steps_left(holder.structure)]


def call_step(holder, line):
    k = line.take_number()
    if k < 0 or k >= len(holder.structure.cuts):
        raise NotThere()
    if is_stuck(holder.structure, k):
        raise Stuck()
    holder.structure = after_step(holder.structure, k)
    return [steps_left(holder.structure)]


def call_steps(holder, line):
    choices = line.take_row()
    if any([choice < 0 for choice in choices]):
        raise OutOfRange()
    done = 0
    structure = holder.structure
    for choice in choices:
        if len(structure.cuts) > 0 and not is_stuck(structure, choice % len(structure.cuts)):
            structure = after_step(structure, choice % len(structure.cuts))
            done += 1
    holder.structure = structure
    return [done, len(structure.cuts)]


def call_finish(holder, line):
    w = line.take_number()
    if w not in (0, 1):
        raise OutOfRange()
    finished = after_all_steps(holder.structure, w == 1)
    holder.structure = finished[0]
    return [finished[1], len(holder.structure.cuts)]


def call_normal(holder, line):
    return form_answer(normal_structure(holder.structure))


def call_walk(holder, line):
    i = line.take_number()
    if i < 0 or i >= len(holder.structure.partners):
        raise NotThere()
    return list(walk_from(holder.structure, leaves_over_cuts(holder.structure), i))


def call_draw(holder, line):
    return [1 if draws_together(holder.structure) else 0]


def call_join(holder, line):
    i = line.take_number()
    j = line.take_number()
    other = read_structure(line.take_row())
    holder.structure = joined(holder.structure, other, i, j)
    return [len(holder.structure.cuts)]


def call_bend(holder, line):
    i = line.take_number()
    j = line.take_number()
    holder.structure = bent(holder.structure, i, j)
    return [len(holder.structure.cuts)]


CALLS = {0: call_set, 1: call_form, 2: call_cuts, 3: call_count, 4: call_step, 5: call_steps, 6: call_finish,
         7: call_normal, 8: call_walk, 9: call_draw, 10: call_join, 11: call_bend}


def answer(holder, line):
    call = CALLS[line.take_number()]
    try:
        return call(holder, line)
    except Refusal as refusal:
        return [refusal.code]


def answers(calls):
    line = Line(calls)
    holder = Holder()
    numbers = []
    while not line.is_done():
        answered = answer(holder, line)
        numbers.append(len(answered))
        numbers.extend(answered)
    return numbers
