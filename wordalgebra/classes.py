"""The L, R, J and H classes of an algebra, and what can be read off them."""

from wordalgebra.algebra import Refused, compose
from wordalgebra.graphs import numbered, parts

LEFT = 0
RIGHT = 1
BOTH_SIDES = 2
LEFT_AND_RIGHT = 3


# An element's first word is its prefix's with a last letter behind, so a letter
# before it is the letter before the prefix, with the same last letter behind.
def put_letters_before(algebra):
    before = [algebra.behind[0]]
    for e in range(1, algebra.size()):
        letter = algebra.last[e]
        before.append([algebra.behind[x][letter] for x in before[algebra.prefix[e]]])
    return before


def left_classes(algebra):
    return parts(algebra.once("before", put_letters_before))


def right_classes(algebra):
    return parts(algebra.behind)


def both_sides_classes(algebra):
    before = algebra.once("before", put_letters_before)
    return parts([x + y for x, y in zip(before, algebra.behind)])


def left_and_right_classes(algebra):
    left = classes_of_kind(algebra, LEFT)
    right = classes_of_kind(algebra, RIGHT)
    return numbered(list(zip(left, right)))


def classes_of_kind(algebra, kind):
    """Of each element the number of its class."""
    if kind == LEFT:
        return algebra.once("L", left_classes)
    if kind == RIGHT:
        return algebra.once("R", right_classes)
    if kind == BOTH_SIDES:
        return algebra.once("J", both_sides_classes)
    if kind == LEFT_AND_RIGHT:
        return algebra.once("H", left_and_right_classes)
    raise Refused()


def how_many(classes):
    return max(classes) + 1


# What letters do commutes just where what all words do commutes.
def commutes(algebra):
    for x in algebra.letters:
        for y in algebra.letters:
            if compose(x, y) != compose(y, x):
                return False
    return True


def idempotents_of_classes(algebra, classes):
    """Of each class how many idempotents it has."""
    counts = [0] * how_many(classes)
    for row, number in zip(algebra.rows, classes):
        if compose(row, row) == row:
            counts[number] += 1
    return counts


# What a class has tells what holds for each a, in every finite algebra:
# - some b has a b = element 0 just where a is in element 0's R class;
# - a power of each a is its next one just where no H class has two elements;
# - some b has a b a = a just where a's R class has an idempotent, which is a b then;
# - the b with a b a = a and b a b = b are as many as the pairs of an idempotent of
#   a's R class and one of a's L class.
def find_kind(algebra):
    n = algebra.size()
    left = classes_of_kind(algebra, LEFT)
    right = classes_of_kind(algebra, RIGHT)
    in_left = idempotents_of_classes(algebra, left)
    in_right = idempotents_of_classes(algebra, right)
    told = [
        (1, commutes(algebra)),
        (2, sum(in_right) == n),
        (4, how_many(right) == 1),
        (8, how_many(classes_of_kind(algebra, LEFT_AND_RIGHT)) == n),
        (16, how_many(classes_of_kind(algebra, BOTH_SIDES)) == n),
        (32, how_many(right) == n),
        (64, how_many(left) == n),
        (128, min(in_right) > 0),
        (256, min(in_left + in_right) == 1 and max(in_left + in_right) == 1),
    ]
    return sum([worth for worth, holds in told if holds])


def kind_of(algebra):
    return algebra.once("kind", find_kind)


# If a leads to the fewest places, a b a leads to as many: b a only changes a's places
# about, and done often enough leaves each as it is, so a = a b a .. b a for every b.
# And x b y leads to no more places than b does.
def ideal_of(algebra):
    """Of each element 1 if every element comes to it, else 0."""
    places = [len(set(row)) for row in algebra.rows]
    fewest = min(places)
    return [1 if count == fewest else 0 for count in places]


# Products with an element that every element comes to are such elements too: if it
# is alone, it is the zero. And a zero comes to nothing but itself.
def zero_of(algebra):
    ideal = ideal_of(algebra)
    if sum(ideal) == 1:
        return ideal.index(1)
    return -1
