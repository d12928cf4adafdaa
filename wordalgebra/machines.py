"""The calls on two machines, read from one list and answered in another."""

from wordalgebra.algebra import Algebra, Refused, TooManyElements
from wordalgebra.classes import classes_of_kind, how_many, ideal_of, kind_of, zero_of
from wordalgebra.languages import alike_classes, is_free

BEGIN = 0
SIZE = 1
OF = 2
WORD = 3
PRODUCT = 4
POWER = 5
CLASSES = 6
KIND = 7
IDEAL = 8
ZERO = 9
SAYS = 10
FREE = 11


class Reader:
    def __init__(self, calls):
        self.calls = calls
        self.place = 0

    def ended(self):
        return self.place >= len(self.calls)

    def take(self):
        self.place += 1
        return self.calls[self.place - 1]

    def take_row(self):
        count = self.take()
        start = self.place
        self.place += count
        return self.calls[start:self.place]


# The new machine takes its place only once it is whole: a refusal leaves the earlier one.
def begin(machines, o, reader):
    q = reader.take()
    k = reader.take()
    step = reader.take_row()
    machines[o] = Algebra(q, k, step)
    return [0]


def product(machine, reader):
    a = reader.take()
    b = reader.take()
    return [machine.product(a, b)]


def classes(machine, reader):
    found = classes_of_kind(machine, reader.take())
    return [how_many(found)] + found


def ideal(machine):
    found = ideal_of(machine)
    return [sum(found)] + found


def says(machine, reader):
    start = reader.take()
    ends = reader.take()
    found = alike_classes(machine, start, ends)
    return [how_many(found)] + found


def free(machine, reader):
    start = reader.take()
    ends = reader.take()
    return [is_free(machine, start, ends)]


# Each call is read to its end before it is judged, so that the next one is found after a refusal too.
def carry_out(machines, reader):
    call = reader.take()
    o = reader.take()
    if call == BEGIN:
        return begin(machines, o, reader)
    machine = machines[o]
    if call == SIZE:
        return [machine.size()]
    if call == OF:
        return [machine.of(reader.take_row())]
    if call == WORD:
        return [0] + machine.word(reader.take())
    if call == PRODUCT:
        return product(machine, reader)
    if call == POWER:
        return [0] + machine.power(reader.take())
    if call == CLASSES:
        return classes(machine, reader)
    if call == KIND:
        return [kind_of(machine)]
    if call == IDEAL:
        return ideal(machine)
    if call == ZERO:
        return [zero_of(machine)]
    if call == SAYS:
        return says(machine, reader)
    if call == FREE:
        return free(machine, reader)
    raise ValueError(f"no call has the number {call}")


def answer(machines, reader):
    try:
        return carry_out(machines, reader)
    except Refused:
        return [-2]
    except TooManyElements:
        return [-1]


def answers(calls):
    machines = [None, None]
    reader = Reader(calls)
    given = []
    while not reader.ended():
        told = answer(machines, reader)
        given.append(len(told))
        given.extend(told)
    return given
