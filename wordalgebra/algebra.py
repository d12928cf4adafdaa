"""The algebra of one machine: what its words do, numbered by their first words."""

MOST_STATES = 12
MOST_LETTERS = 6
MOST_ELEMENTS = 4096
LONGEST_WORD = 65536


class Refused(Exception):
    pass


class TooManyElements(Exception):
    pass


def check_machine(q, k, step):
    if q < 1 or q > MOST_STATES or k < 1 or k > MOST_LETTERS:
        raise Refused()
    if max(step) >= q:
        raise Refused()


def compose(first, second):
    return tuple([second[s] for s in first])


class Algebra:
    def __init__(self, q, k, step):
        check_machine(q, k, step)
        self.letters = [step[a::k] for a in range(k)]
        self.rows = []
        self.numbers = {}
        # A first word without its last letter is a first word too: the prefix's.
        self.prefix = []
        self.last = []
        # behind[e][a] is the element e with the letter a put behind.
        self.behind = []
        self.known = {}
        self.keep(tuple(range(q)), None, None)
        # Going through the elements in order, and the letters in order, meets
        # words in their order: the first word that does a thing finds it.
        while len(self.behind) < len(self.rows):
            self.behind.append(self.put_letters_behind(len(self.behind)))

    def keep(self, row, prefix, letter):
        number = len(self.rows)
        if number == MOST_ELEMENTS:
            raise TooManyElements()
        self.rows.append(row)
        self.numbers[row] = number
        self.prefix.append(prefix)
        self.last.append(letter)
        return number

    def put_letters_behind(self, e):
        found = []
        for a, letter in enumerate(self.letters):
            row = compose(self.rows[e], letter)
            number = self.numbers.get(row)
            if number is None:
                number = self.keep(row, e, a)
            found.append(number)
        return found

    # A machine stays as it is: what was found out of it once holds, and may be asked hundreds of times.
    def once(self, name, find):
        if name not in self.known:
            self.known[name] = find(self)
        return self.known[name]

    def check(self, e):
        if e < 0 or e >= len(self.rows):
            raise Refused()

    def size(self):
        return len(self.rows)

    def of(self, word):
        if len(word) > LONGEST_WORD:
            raise Refused()
        k = len(self.letters)
        e = 0
        for letter in word:
            if letter >= k:
                raise Refused()
            e = self.behind[e][letter]
        return e

    def word(self, e):
        self.check(e)
        letters = []
        while e != 0:
            letters.append(self.last[e])
            e = self.prefix[e]
        letters.reverse()
        return letters

    def product(self, a, b):
        self.check(a)
        self.check(b)
        return self.numbers[compose(self.rows[a], self.rows[b])]

    def power(self, e):
        self.check(e)
        exponents = {}
        idempotent = e
        exponent = 1
        at = e
        while at not in exponents:
            exponents[at] = exponent
            if self.product(at, at) == at:
                idempotent = at
            at = self.product(at, e)
            exponent += 1
        first = exponents[at]
        return [idempotent, first, exponent - first]
