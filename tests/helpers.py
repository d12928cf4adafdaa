"""The calls as lists, machines to try, and a slow second way to their answers."""

import itertools
import random

from wordalgebra.machines import answers

SMALLEST = -2147483648
LARGEST = 2147483647


def begin(o, machine):
    q, k, step = machine
    return [0, o, q, k, len(step)] + list(step)


def size(o):
    return [1, o]


def of(o, word):
    return [2, o, len(word)] + list(word)


def word(o, e):
    return [3, o, e]


def product(o, a, b):
    return [4, o, a, b]


def power(o, e):
    return [5, o, e]


def classes(o, kind):
    return [6, o, kind]


def kind(o):
    return [7, o]


def ideal(o):
    return [8, o]


def zero(o):
    return [9, o]


def says(o, start, ends):
    return [10, o, start, ends]


def free(o, start, ends):
    return [11, o, start, ends]


def split(given):
    """The answers of each call, without their counts."""
    told = []
    at = 0
    while at < len(given):
        end = at + 1 + given[at]
        assert given[at] >= 1 and end <= len(given), given
        told.append(given[at + 1:end])
        at = end
    return told


def ask(*calls):
    told = split(answers(list(itertools.chain(*calls))))
    assert len(told) == len(calls), (len(told), len(calls))
    return told


def ask_in_parts(machine, calls):
    """As ask, behind a begin of machine 0, but in as many lists as 300 calls a list need."""
    told = []
    for at in range(0, len(calls), 299):
        part = ask(begin(0, machine), *calls[at:at + 299])
        assert part[0] == [0], part[0]
        told.extend(part[1:])
    return told


def machine_of(*letters):
    """The machine whose letters take the states to these rows of places."""
    q = len(letters[0])
    return q, len(letters), [letter[s] for s in range(q) for letter in letters]


def letters_of(machine):
    q, k, step = machine
    return [[step[k * s + a] for s in range(q)] for a in range(k)]


def beside(*machines):
    """One machine of several that don't touch: it has as many elements as the product of theirs."""
    q = sum(machine[0] for machine in machines)
    letters = []
    start = 0
    for machine in machines:
        for letter in letters_of(machine):
            places = list(range(q))
            places[start:start + machine[0]] = [start + s for s in letter]
            letters.append(places)
        start += machine[0]
    return machine_of(*letters)


def does(machine, letters):
    """Where the word takes each state, one state and one letter after another."""
    q, k, step = machine
    places = []
    for s in range(q):
        for a in letters:
            s = step[k * s + a]
        places.append(s)
    return tuple(places)


def first_words(machine):
    """What words do with the first word for it, from a search of all words in their order."""
    found = {}
    for length in itertools.count():
        before = len(found)
        for letters in itertools.product(range(machine[1]), repeat=length):
            found.setdefault(does(machine, letters), list(letters))
        if len(found) == before:
            return found


def count(machine):
    """How many things words do, however many these are."""
    letters = letters_of(machine)
    seen = {tuple(range(machine[0]))}
    new = seen
    while new:
        new = {tuple(letter[s] for s in row) for row in new for letter in letters} - seen
        seen = seen | new
    return len(seen)


def rows_in_order(machine):
    """What words do, in the order of the first words for it, where there are too many words to search."""
    letters = letters_of(machine)
    found = {tuple(range(machine[0])): True}
    new = list(found)
    while new:
        new = [tuple(letter[s] for s in row) for row in new for letter in letters]
        new = [row for row in dict.fromkeys(new) if row not in found]
        found.update(dict.fromkeys(new, True))
    return list(found)


def table(machine):
    """The products of all pairs of elements."""
    rows = list(first_words(machine))
    numbers = {row: e for e, row in enumerate(rows)}
    return [[numbers[tuple(second[s] for s in first)] for second in rows] for first in rows]


def told_classes(n, same):
    """The answer of classes that are told by which pairs are in one class."""
    lowest = [min(b for b in range(n) if same(a, b)) for a in range(n)]
    heads = sorted(set(lowest))
    return [len(heads)] + [heads.index(low) for low in lowest]


def told_marks(marks):
    """The answer of classes whose elements have the same mark, where told_classes takes too long."""
    different = list(dict.fromkeys(marks))
    places = {mark: place for place, mark in enumerate(different)}
    return [len(different)] + [places[mark] for mark in marks]


def plain_classes(products, kind):
    """The answer of classes from a search for x and y, u and v."""
    every = range(len(products))
    left = [{products[x][e] for x in every} for e in every]
    right = [{products[e][x] for x in every} for e in every]
    both = [{products[x][f] for f in right[e] for x in every} for e in every]
    tests = [
        lambda a, b: a in left[b] and b in left[a],
        lambda a, b: a in right[b] and b in right[a],
        lambda a, b: a in both[b] and b in both[a],
        lambda a, b: a in left[b] and b in left[a] and a in right[b] and b in right[a],
    ]
    return told_classes(len(products), tests[kind])


def plain_says(rows, products, start, ends):
    """The answer of says from a search over all x and y, where rows is what each element does."""
    every = range(len(products))
    taken_in = [ends >> row[start] & 1 for row in rows]
    seen = [[taken_in[products[products[x][a]][y]] for x in every for y in every] for a in every]
    return told_classes(len(products), lambda a, b: seen[a] == seen[b])


def random_machine(seed, q, k):
    source = random.Random(seed)
    return q, k, [source.randrange(q) for place in range(q * k)]


ONE_STATE = machine_of([0])
SWAP = machine_of([1, 0])
RESETS = machine_of([0, 0], [1, 1])
ALL_MAPS_OF_3 = machine_of([1, 2, 0], [1, 0, 2], [0, 0, 2])
ALL_MAPS_OF_5 = machine_of([1, 2, 3, 4, 0], [1, 0, 2, 3, 4], [0, 0, 2, 3, 4])
ALL_MAPS_OF_6 = machine_of([1, 2, 3, 4, 5, 0], [1, 0, 2, 3, 4, 5], [0, 0, 2, 3, 4, 5])
CYCLES_OF_3_4_5 = machine_of([1, 2, 0, 4, 5, 6, 3, 8, 9, 10, 11, 7])
CHAIN_OF_12 = machine_of([1, 2, 3, 4, 5, 6, 7, 8, 9, 10, 11, 11])
TAIL_AND_CYCLE = machine_of([1, 2, 3, 4, 2])
ALL_SWAPS_OF_3 = machine_of([1, 2, 0], [1, 0, 2])
# z a = z for all a, where z is either letter: what is first done stays.
FIRST_STAYS = machine_of([1, 1, 2], [2, 1, 2])
# Two letters that undo each other where they can, and else lead to a state of no return.
UNDONE_OR_LOST = machine_of([1, 2, 2], [2, 0, 2])
TWO_SINKS = beside(machine_of([0, 0]), machine_of([0, 0]))
# States 0 and 1 never turn, states 2 and 3 do.
STILL_AND_TURNING = machine_of([1, 1, 3, 2])

OF_16 = machine_of([0, 1, 0, 2], [2, 1, 1, 3])
OF_17 = machine_of([0, 3, 1, 0], [1, 1, 1, 3])
OF_241 = machine_of([0, 2, 5, 0, 4, 2], [5, 3, 2, 3, 1, 0], [2, 1, 3, 3, 0, 3])
JUST_4096 = beside(OF_16, OF_16, OF_16)
JUST_4097 = beside(OF_17, OF_241)

SMALL_MACHINES = [
    ONE_STATE,
    SWAP,
    RESETS,
    ALL_MAPS_OF_3,
    CYCLES_OF_3_4_5,
    CHAIN_OF_12,
    TAIL_AND_CYCLE,
    OF_16,
    OF_17,
    machine_of([0, 0, 0, 0], [0, 1, 2, 3]),
    machine_of([1, 1, 2], [1, 1, 2], [0, 2, 2]),
    machine_of([0], [0], [0], [0], [0], [0]),
    random_machine(1, 3, 2),
    random_machine(2, 4, 2),
    random_machine(3, 3, 3),
    random_machine(4, 3, 4),
]

EVERY_MACHINE_OF_2 = [machine_of(*maps) for maps in itertools.product(itertools.product(range(2), repeat=2), repeat=2)]
EVERY_MACHINE_OF_3 = [
    machine_of(*maps)
    for maps in itertools.combinations_with_replacement(itertools.product(range(3), repeat=3), 2)
]
LARGER_MACHINES = [random_machine(seed, 4 + seed % 2, 2) for seed in (30, 33, 35, 39, 51, 52, 53, 59)]
SEARCHED_MACHINES = SMALL_MACHINES + EVERY_MACHINE_OF_2 + EVERY_MACHINE_OF_3 + LARGER_MACHINES + [
    ALL_SWAPS_OF_3, FIRST_STAYS, UNDONE_OR_LOST, TWO_SINKS, STILL_AND_TURNING,
]

NO_NUMBERS = [SMALLEST, SMALLEST + 1, -4097, -100, -3, -2, -1]


def no_elements(n):
    """Numbers that no element of n has, near and far on both sides."""
    return NO_NUMBERS + [n, n + 1, n + 100, n + 4096, 65536, LARGEST - 1, LARGEST]


def wrong_starts(q):
    """Numbers that no state of q has, near and far on both sides."""
    return [-1, -2, -q, SMALLEST, q, q + 1, q + 12, 12, 255, 65536, LARGEST]


def wrong_ends(q):
    """Ends with a bit from q on."""
    bits = [1 << bit for bit in range(q, 32)]
    return bits + [bit + 1 for bit in bits] + [(1 << 32) - 1, (1 << 32) - 2, (1 << 32) - (1 << q), (2 << q) - 1]
