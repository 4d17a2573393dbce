"""Programs of many forms for the tests."""

from handshaker.syntax import Program, Thread

WORDS_OF_TWO = ("plus", "minus", "times", "over", "rest", "less", "atmost", "same", "and", "or")
NUMBERS = (0, 1, 2, 7, -1, -30, 1000000000, -1000000000)


class Maker:
    """Makes programs that are let by, from the choices of a random.Random."""

    def __init__(self, choice):
        self.choice = choice
        self.left = 0
        self.cells = []
        self.variables = []

    def program(self):
        """A program of 1 to 6 threads."""
        names = self.names(self.choice.randint(0, 4))
        self.cells = [(name, self.choice.randint(1, 6), self.number()) for name in names]
        threads = []
        for name in self.names(self.choice.randint(1, 6)):
            locals_free = [one for one in self.names(self.choice.randint(0, 10)) if one not in names]
            self.variables = [(one, self.number()) for one in locals_free]
            self.left = self.choice.choice((3, 10, 80))
            threads.append(Thread(name, self.variables, self.statements(False, 1, 0)))
        return Program(self.cells, threads)

    def names(self, many):
        pool = ["a", "b", "x", "count", "abcdefghijkl", "plus", "number", "atoms", "ende", "z", "ann", "bob"]
        self.choice.shuffle(pool)
        return pool[:many]

    def number(self):
        return self.choice.choice(NUMBERS)

    def expression(self, depth, with_cells):
        """An expression with cells or without; parts stand at most so deep."""
        leaves = ["number"] + ["local"] * 2 * bool(self.variables) + ["cell"] * bool(with_cells and self.cells)
        if depth == 0 or self.choice.random() < 0.3:
            word = self.choice.choice(leaves)
        else:
            word = self.choice.choice(leaves + ["negative", "not", *WORDS_OF_TWO])
        if word == "number":
            return (word, self.number())
        if word == "local":
            return (word, self.choice.choice(self.variables)[0])
        if word == "cell":
            return (word, self.choice.choice(self.cells)[0], self.index(depth, with_cells))
        many = 1 if word in ("negative", "not") else 2
        return (word, *[self.expression(depth - 1, with_cells) for _ in range(many)])

    def index(self, depth, with_cells):
        if depth == 0 or self.choice.random() < 0.5:
            return ("number", 0)
        return self.expression(depth - 1, with_cells)

    def statements(self, in_block, depth, repeats):
        """A list of statements that stands in so many lists, itself included, and repeats."""
        found = []
        for _ in range(self.choice.randint(0, 6)):
            if self.left > 0:
                self.left -= 1
                found.append(self.statement(in_block, depth, repeats))
        return found

    def statement(self, in_block, depth, repeats):
        words = ["set"] * bool(self.variables)
        words += ["later", "retry", "undo"] + ["put"] * 2 * bool(self.cells) if in_block else ["say", "pause"]
        if depth < 6:
            words += ["if", "choose"] if in_block else ["if", "block", "block"]
            words += ["repeat"] * (repeats < 2)
        word = self.choice.choice(words)
        if word in ("retry", "undo"):
            return (word,)
        if word == "choose":
            return (word, self.statements(True, depth + 1, repeats), self.statements(True, depth + 1, repeats))
        if word == "block":
            return self.block(depth, repeats)
        value = self.expression(3, in_block)
        if word == "set":
            return (word, self.choice.choice(self.variables)[0], value)
        if word == "put":
            return (word, self.choice.choice(self.cells)[0], self.index(2, True), value)
        if word == "if":
            first = self.statements(in_block, depth + 1, repeats)
            return (word, value, first, self.statements(in_block, depth + 1, repeats))
        if word == "repeat":
            return (word, value, self.statements(in_block, depth + 1, repeats + 1))
        return (word, value)

    def block(self, depth, repeats):
        body = self.statements(True, depth + 1, repeats)
        if self.choice.random() < 0.5:
            return ("block", None, body, [])
        limit = self.expression(2, False)
        return ("block", limit, body, self.statements(False, depth + 1, repeats))


class Contender(Maker):
    """Makes small programs whose threads often read and write the same few cells, and seldom come to faults."""

    def program(self):
        self.cells = [(name, 2, self.choice.choice((0, 0, 1))) for name in ("a", "b")[:self.choice.randint(1, 2)]]
        threads = []
        for name in ("ann", "bob", "cid", "dan")[:self.choice.randint(2, 4)]:
            self.variables = [("x", self.number()), ("y", self.number())]
            self.left = self.choice.randint(3, 14)
            threads.append(Thread(name, self.variables, self.body()))
        return Program(self.cells, threads)

    def body(self):
        """One or two blocks, perhaps within a repeat, and other statements."""
        blocks = [self.block(1, 0) for _ in range(self.choice.randint(1, 2))]
        if self.choice.random() < 0.3:
            blocks = [("repeat", ("number", 2), blocks)]
        return [*blocks, *self.statements(False, 1, 0)]

    def number(self):
        return self.choice.choice((0, 0, 1, 1, 2, 3))

    def expression(self, depth, with_cells):
        if depth == 0 or self.choice.random() < 0.4:
            if with_cells and self.choice.random() < 0.6:
                return ("cell", self.choice.choice(self.cells)[0], self.index(depth, True))
            if self.choice.random() < 0.5:
                return ("local", self.choice.choice(self.variables)[0])
            return ("number", self.number())
        if self.choice.random() < 0.15:
            return ("not", self.expression(depth - 1, with_cells))
        word = self.choice.choice(("plus", "plus", "minus", "less", "same", "and", "or"))
        return (word, self.expression(depth - 1, with_cells), self.expression(depth - 1, with_cells))

    def index(self, depth, with_cells):
        if depth == 0 or self.choice.random() < 0.7:
            return ("number", self.choice.randint(0, 1))
        return ("same", self.expression(depth - 1, with_cells), self.expression(depth - 1, with_cells))

    def statement(self, in_block, depth, repeats):
        statement = super().statement(in_block, depth, repeats)
        if statement[0] in ("retry", "undo", "pause", "repeat") and self.choice.random() < 0.6:
            return super().statement(in_block, depth, repeats)
        if statement[0] == "later" and self.choice.random() < 0.5:
            return ("if", self.expression(1, True), [("retry",)], [])
        return statement


class Rival(Contender):
    """Makes very small programs, in which it mostly matters who comes first."""

    def program(self):
        self.cells = [("a", 1, self.number()), ("b", 2, self.number())][:self.choice.randint(1, 2)]
        threads = []
        for number, name in enumerate(("ann", "bob", "cid")[:self.choice.randint(2, 3)]):
            self.variables = [("x", number + 1)]
            body = [self.part() for _ in range(self.choice.randint(1, 2))]
            threads.append(Thread(name, self.variables, [*body, ("say", ("local", "x"))]))
        return Program(self.cells, threads)

    def part(self):
        """A block, or now and then another statement."""
        if self.choice.random() < 0.15:
            return self.choice.choice((("pause", ("number", self.choice.randint(0, 2))), ("say", ("local", "x"))))
        cell, other = (self.cell(), self.cell())
        body = [("set", "x", ("plus", cell, self.expression(1, True))), ("put", *other[1:], self.expression(2, True))]
        test = ("if", (self.choice.choice(("same", "less")), cell, ("number", self.choice.randint(0, 2))))
        way = self.choice.choice(([("retry",)], [("undo",)], [("later", other)], [("put", *cell[1:], ("local", "x"))]))
        body.insert(self.choice.randint(0, 2), (*test, way, []))
        if self.choice.random() < 0.2:
            body = [("choose", body, [("put", *other[1:], ("number", 7)), ("later", ("local", "x"))])]
        if self.choice.random() < 0.3:
            late = [("set", "x", ("number", self.choice.randint(-3, -1)))]
            return ("block", ("number", self.choice.randint(0, 2)), body, late)
        return ("block", None, body, [])

    def cell(self):
        name, size, _ = self.choice.choice(self.cells)
        return ("cell", name, ("number", self.choice.randrange(size)))

    def index(self, depth, with_cells):
        return ("number", 0)
