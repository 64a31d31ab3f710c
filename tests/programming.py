"""Publishers by chance, and a second stepper of publishers, for the tests."""

MOST = 10 ** 12
WAY = ("way",)


class Fault(Exception):
    """A fault, with the place of its statement once that is known."""

    def __init__(self, place=None):
        self.place = place


class Stepper:
    """Does a publisher on one dict of numbers, by the words of [32] to [35]."""

    def __init__(self, book, publisher):
        self.book = book
        self.publisher = publisher
        self.parts = range(len(book[0]))
        self.at = {("truth", i): 0 for i in self.parts} | {("shown", i): 0 for i in self.parts}
        for name, start in publisher[0]:
            self.at["cell", name] = start
        for name, start in publisher[1]:
            for i in self.parts:
                self.at["row", name, i] = start

    def state(self):
        return (
            tuple(self.at["truth", i] for i in self.parts),
            tuple(self.at["shown", i] for i in self.parts),
            tuple(self.at["cell", name] for name, _ in self.publisher[0]),
            tuple(tuple(self.at["row", name, i] for i in self.parts) for name, _ in self.publisher[1]),
        )

    def step(self, part, way):
        """The place of the fault; None if there is none."""
        ahead = dict(self.at)
        self.moved, self.way, self.it = part, way, None
        self.at["truth", part] += way
        try:
            self.body(self.publisher[2], ())
        except Fault as fault:
            self.at = ahead
            return fault.place
        return None

    def body(self, body, place):
        for index, statement in enumerate(body):
            self.statement(statement, place + (index,))

    def statement(self, statement, place):
        word, *rest = statement
        try:
            if word == "set":
                self.at["cell", rest[0]] = self.value(rest[1])
            elif word == "put":
                self.at["row", rest[0], self.which(rest[1])] = self.value(rest[2])
            elif word == "show":
                self.at["shown", self.which(rest[0])] = self.value(rest[1])
            elif word == "each":
                for self.it in self.parts:
                    self.body(rest[0], place + (0,))
            elif self.test(rest[0]):
                self.body(rest[1], place + (0,))
            else:
                self.body(rest[2], place + (1,))
        except Fault as fault:
            raise Fault(place if fault.place is None else fault.place) from None

    def which(self, part):
        return {"part": part[-1], "moved": self.moved, "it": self.it}[part[0]]

    def value(self, number):
        word, *rest = number
        if word in ("add", "sub", "mul", "div", "mod"):
            one, other = [self.value(each) for each in rest]
            if word in ("div", "mod") and other <= 0:
                raise Fault()
            told = {
                "add": lambda: one + other, "sub": lambda: one - other, "mul": lambda: one * other,
                "div": lambda: divmod(one, other)[0], "mod": lambda: divmod(one, other)[1],
            }[word]()
        elif word == "num":
            told = rest[0]
        elif word == "cell":
            told = self.at["cell", rest[0]]
        elif word == "row":
            told = self.at["row", rest[0], self.which(rest[1])]
        elif word == "steps":
            told = self.book[0][self.which(rest[0])]
        elif word == "way":
            told = self.way
        else:
            told = self.at[word, self.which(rest[0])]
        if not -MOST <= told <= MOST:
            raise Fault()
        return told

    def test(self, condition):
        word, *rest = condition
        if word in ("eq", "less"):
            one, other = [self.value(each) for each in rest]
            return one == other if word == "eq" else one < other
        if word == "same":
            return self.which(rest[0]) == self.which(rest[1])
        if word == "linked":
            return self.which(rest[0]) in self.book[1][self.moved]
        told = [self.test(each) for each in rest]
        return {"not": lambda: not told[0], "and": lambda: told[0] and told[1],
            "or": lambda: told[0] or told[1]}[word]()


class Drawer:
    """Draws publishers; with large numbers if large, so that there are faults of every kind."""

    def __init__(self, chance, parts, large=False):
        self.chance = chance
        self.parts = parts
        self.large = large
        self.left = 100

    def publisher(self, deep=3, most=4):
        cells, rows = self.chance.randint(0, 3), self.chance.randint(0, 2)
        self.cells = [f"c{i}" for i in range(cells)]
        self.rows = [f"r{i}" for i in range(rows)]
        self.left = 100
        start = (-1000000, 1000000) if self.large else (-9, 9)
        return (
            tuple((name, self.chance.randint(*start)) for name in self.cells),
            tuple((name, self.chance.randint(*start)) for name in self.rows),
            self.body(deep, most, False),
        )

    def body(self, deep, most, each):
        statements = []
        for _ in range(self.chance.randint(0, most)):
            if self.left > 0:
                self.left -= 1
                statements.append(self.statement(deep, most, each))
        return tuple(statements)

    def statement(self, deep, most, each):
        words = ["show"] + ["set"] * bool(self.cells) + ["put"] * bool(self.rows)
        if deep > 1:
            words += ["if", "if"] + ["each"] * (not each)
        word = self.chance.choice(words)
        if word == "set":
            return word, self.chance.choice(self.cells), self.number(self.chance.randint(1, 4), each)
        if word == "put":
            return word, self.chance.choice(self.rows), self.part(each), self.number(self.chance.randint(1, 4), each)
        if word == "show":
            return word, self.part(each), self.number(self.chance.randint(1, 4), each)
        if word == "each":
            return word, self.body(deep - 1, most, True)
        test = self.test(self.chance.randint(1, 4), each)
        return word, test, self.body(deep - 1, most, each), self.body(deep - 1, most, each)

    def part(self, each):
        return self.chance.choice([("part", self.chance.randrange(self.parts)), ("moved",)] + [("it",)] * (2 * each))

    def number(self, deep, each):
        if deep > 1 and self.chance.random() < 0.8:
            word = self.chance.choice(("add", "sub", "mul", "div", "mod"))
            if word in ("div", "mod") and self.chance.random() < 0.8:
                # Most divisors are above 0, so that not all moves end in a fault.
                divisor = self.chance.choice((("num", self.chance.randint(1, 5)), ("steps", self.part(each))))
                return word, self.number(deep - 1, each), divisor
            return word, self.number(deep - 1, each), self.number(deep - 1, each)
        words = ["num", "num", "truth", "shown", "steps",
            "way"] + ["cell"] * bool(self.cells) + ["row"] * bool(self.rows)
        word = self.chance.choice(words)
        if word == "num":
            return word, self.chance.choice((0, 1, 2, 3, 1000, 1000000) if self.large else (0, 1, 2, 3, 4, 7))
        if word == "way":
            return WAY
        if word == "cell":
            return word, self.chance.choice(self.cells)
        if word == "row":
            return word, self.chance.choice(self.rows), self.part(each)
        return word, self.part(each)

    def test(self, deep, each):
        if deep > 1 and self.chance.random() < 0.8:
            word = self.chance.choice(("not", "and", "or"))
            return (word, *(self.test(deep - 1, each) for _ in range(1 if word == "not" else 2)))
        word = self.chance.choice(("eq", "less", "same", "linked"))
        if word == "linked":
            return word, self.part(each)
        if word == "same":
            return word, self.part(each), self.part(each)
        return word, self.number(self.chance.randint(1, 3), each), self.number(self.chance.randint(1, 3), each)


def some_publisher(chance, book, large=False, deep=3, most=4):
    """A publisher for a book, with cells c0, c1 .. and rows r0, r1 .. ."""
    return Drawer(chance, len(book[0]), large).publisher(deep, most)


def part_names(book):
    """Names for the parts of a book."""
    return ("ann", "bob", "cy", "dee", "eve", "flo")[:len(book[0])]
