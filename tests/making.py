"""Makes programs by chance, the same ones for the same seed."""

import random

from tests.samples import OPERATORS

FLAG = ("flag",)
LARGE = ("num", -10 ** 6, 10 ** 6)


class FreeMaker:
    """Makes programs that only have the right form: their names and kinds may be wrong."""

    def __init__(self, seed):
        self.chance = random.Random(seed)

    def name(self):
        return self.chance.choice(["a", "b2", "main", "notx", "if2", "x", "ending", "num", "z9z"])

    def number(self):
        return self.chance.choice([0, 1, -1, 7, -12, 300, 10 ** 9, -10 ** 9, 10 ** 30])

    def kind(self):
        return self.chance.choice(
            [FLAG, ("num", self.number(), self.number()), ("ref", self.name())]
        )

    def expression(self, depth):
        if depth == 0 or self.chance.random() < 0.3:
            return self.chance.choice([
                ("num", self.number()), ("flag", self.chance.random() < 0.5), ("null",),
                ("name", self.name()),
            ])
        if self.chance.random() < 0.2:
            return ("not", self.expression(depth - 1))
        operator = self.chance.choice(OPERATORS)
        return (operator, self.expression(depth - 1), self.expression(depth - 1))

    def body(self, depth):
        return tuple(self.statement(depth) for _ in range(self.chance.randrange(4)))

    def statement(self, depth):
        words = ["set", "input", "new", "free", "load", "store", "get", "put", "call", "return",
                 "break", "assert"]
        word = self.chance.choice(words + ["if", "while"] * 4 if depth else words)
        value = self.expression(3)
        if word in ("set", "load", "get"):
            middle = {"set": (), "load": (self.name(),), "get": (self.name(),)}[word]
            last = self.name() if word == "load" else value
            return (word, self.name(), *middle, last)
        if word in ("input", "new", "free"):
            return (word, self.name())
        if word == "store":
            return (word, self.name(), self.name(), value)
        if word == "put":
            return (word, self.name(), self.expression(2), value)
        if word == "call":
            count = self.chance.randrange(4)
            arguments = tuple(self.expression(2) for _ in range(count))
            return (word, self.chance.choice([None, self.name()]), self.name(), arguments)
        if word == "return":
            return (word, self.chance.choice([None, value]))
        if word == "if":
            return (word, value, self.body(depth - 1), self.body(depth - 1))
        if word == "while":
            return (word, value, self.body(depth - 1))
        return ("break",) if word == "break" else ("assert", value)

    def declarations(self):
        return tuple((self.name(), self.kind()) for _ in range(self.chance.randrange(4)))

    def function(self):
        result = self.chance.choice([None, self.kind()])
        return (self.name(), self.declarations(), result, self.declarations(), self.body(3))

    def some(self, make):
        return tuple(make() for _ in range(self.chance.randrange(3)))

    def program(self):
        return (
            self.some(lambda: (self.name(), self.declarations())),
            self.some(lambda: (self.name(), self.number(), self.number(), self.number())),
            self.declarations(),
            self.some(self.function),
        )


class RightMaker:
    """Makes programs that check_program accepts."""

    def __init__(self, seed):
        self.chance = random.Random(seed)

    def number_kind(self):
        low = self.chance.randrange(-6, 6)
        return ("num", low, low + self.chance.randrange(1, 12))

    def kind(self):
        return self.chance.choice(
            [FLAG, self.number_kind(), self.number_kind(), ("ref", "r"), ("ref", "q")]
        )

    def program(self):
        small = ("num", -1, self.chance.randrange(0, 6))
        self.fields = {
            "r": (("f", FLAG), ("n", small)),
            "q": (("r", ("ref", "r")), ("f", small)),
        }
        self.arrays = (("row", self.chance.randrange(1, 5), -2, 2), ("col", 3, 0, 20))
        self.shared = tuple(("g" + str(at), self.kind()) for at in range(4))
        self.heads = [
            (name, tuple((name + "p" + str(at), self.kind()) for at in range(count)),
             self.chance.choice([None, self.kind()]))
            for name, count in (("one", 1), ("two", 2))
        ]
        self.heads.append(("main", (), None))
        self.chance.shuffle(self.heads)
        functions = tuple(self.function(*head) for head in self.heads)
        return (tuple(self.fields.items()), self.arrays, self.shared, functions)

    def function(self, name, params, result):
        own = self.variables(name)
        self.kinds = dict((*self.shared, *params, *own))
        self.result = result
        return (name, params, result, own, self.body(4, False))

    def variables(self, name):
        own = tuple((name + "v" + str(at), self.kind()) for at in range(3))
        return own + ((name + "i", ("num", -2, 2)), (name + "j", ("num", 0, 20)))

    def names_of(self, test):
        return [name for name, kind in self.kinds.items() if test(kind)]

    def number(self, depth):
        names = self.names_of(lambda kind: kind[0] == "num")
        if depth == 0 or self.chance.random() < 0.5:
            if names and self.chance.random() < 0.7:
                return ("name", self.chance.choice(names))
            return ("num", self.chance.randrange(-3, 5))
        word = self.chance.choice("+-*")
        return (word, self.number(depth - 1), self.number(depth - 1))

    def reference(self, record):
        names = self.names_of(lambda kind: kind == ("ref", record))
        if not names or self.chance.random() < 0.1:
            return ("null",)
        return ("name", self.chance.choice(names))

    def flag(self, depth):
        names = self.names_of(lambda kind: kind == FLAG)
        pick = self.chance.randrange(7)
        if depth == 0 or pick == 0:
            if names and self.chance.random() < 0.8:
                return ("name", self.chance.choice(names))
            return ("flag", self.chance.random() < 0.6)
        if pick == 1:
            return ("not", self.flag(depth - 1))
        if pick == 2:
            return (self.chance.choice(["and", "or"]), self.flag(depth - 1), self.flag(depth - 1))
        if pick == 3:
            record = self.chance.choice("rq")
            return ("same", self.reference(record), self.reference(record))
        word = self.chance.choice(["<", "<=", "==", "!="])
        return (word, self.number(depth - 1), self.number(depth - 1))

    def fitting(self, kind):
        if kind[0] == "num":
            if self.chance.random() < 0.6:
                return ("num", self.chance.randrange(kind[1], kind[2] + 1))
            return self.number(2)
        return self.flag(2) if kind == FLAG else self.reference(kind[1])

    def body(self, depth, in_while):
        found = []
        for _ in range(self.chance.randrange(5) if depth < 4 else 8):
            statement = self.statement(depth, in_while)
            if statement is not None:
                found.append(statement)
        return tuple(found)

    def statement(self, depth, in_while):
        """A statement, or None if there is none with the word that was drawn."""
        words = ["set", "set", "input", "new", "new", "load", "store", "get", "put", "call"]
        if self.chance.random() < 0.12:
            words = ["free", "return", "assert"]
        if depth and self.chance.random() < 0.35:
            words = ["if", "if", "while"]
        if in_while and self.chance.random() < 0.3:
            words = ["break"]
        make = getattr(self, "make_" + self.chance.choice(words))
        return make(depth, in_while)

    def variable(self, test):
        names = self.names_of(test)
        return self.chance.choice(names) if names else None

    def make_set(self, depth, in_while):
        name = self.variable(lambda kind: True)
        return ("set", name, self.fitting(self.kinds[name]))

    def make_input(self, depth, in_while):
        name = self.variable(lambda kind: kind[0] != "ref")
        return ("input", name)

    def make_new(self, depth, in_while):
        name = self.variable(lambda kind: kind[0] == "ref")
        return name and ("new", name)

    def make_free(self, depth, in_while):
        name = self.variable(lambda kind: kind[0] == "ref")
        return name and ("free", name)

    def field(self):
        name = self.variable(lambda kind: kind[0] == "ref")
        if name is None:
            return None
        return (name, *self.chance.choice(self.fields[self.kinds[name][1]]))

    def make_load(self, depth, in_while):
        found = self.field()
        if found is None:
            return None
        target = self.variable(lambda kind: kind == found[2])
        return target and ("load", target, found[0], found[1])

    def make_store(self, depth, in_while):
        found = self.field()
        return found and ("store", found[0], found[1], self.fitting(found[2]))

    def index(self, length):
        if self.chance.random() < 0.8:
            return ("num", self.chance.randrange(length))
        return self.number(1)

    def make_get(self, depth, in_while):
        name, length, low, high = self.chance.choice(self.arrays)
        target = self.variable(lambda kind: kind == ("num", low, high))
        return target and ("get", target, name, self.index(length))

    def make_put(self, depth, in_while):
        name, length, low, high = self.chance.choice(self.arrays)
        return ("put", name, self.index(length), self.fitting(("num", low, high)))

    def make_call(self, depth, in_while):
        name, params, result = self.chance.choice(self.heads)
        target = None
        if result is not None and self.chance.random() < 0.7:
            target = self.variable(lambda kind: kind == result)
        return ("call", target, name, tuple(self.fitting(kind) for _, kind in params))

    def make_return(self, depth, in_while):
        return ("return", None if self.result is None else self.fitting(self.result))

    def make_if(self, depth, in_while):
        first = self.body(depth - 1, in_while)
        return ("if", self.flag(3), first, self.body(depth - 1, in_while))

    def make_while(self, depth, in_while):
        return ("while", self.flag(3), self.body(depth - 1, True))

    def make_break(self, depth, in_while):
        return ("break",)

    def make_assert(self, depth, in_while):
        return ("assert", self.flag(2))


class PlainMaker(RightMaker):
    """Makes plain programs that check_program accepts: no arrays and no large kinds."""

    def number_kind(self):
        low = self.chance.randrange(-3, 3)
        return ("num", low, low + self.chance.randrange(1, 5))

    def program(self):
        records, _, shared, functions = RightMaker.program(self)
        return (records, (), shared, functions)

    def variables(self, name):
        kinds = [FLAG, self.number_kind(), self.kind(), self.kind()]
        return tuple((name + "v" + str(at), kind) for at, kind in enumerate(kinds))

    def make_get(self, depth, in_while):
        return self.make_input(depth, in_while)

    def make_put(self, depth, in_while):
        return self.make_input(depth, in_while)


class CarefulMaker(RightMaker):
    """Makes right programs whose runs go far.

    References are seldom null where they are followed, functions seldom call themselves, and there
    is a variable for the result of each function.
    """

    def variables(self, name):
        results = [result for _, _, result in self.heads if result is not None]
        own = tuple((name + "r" + str(at), result) for at, result in enumerate(results))
        return RightMaker.variables(self, name) + own

    def body(self, depth, in_while):
        found = []
        for statement in RightMaker.body(self, depth, in_while):
            at = {"load": 2, "store": 1, "free": 1}.get(statement[0])
            if at is not None and self.chance.random() < 0.9:
                holder = statement[at]
                found.append(("if", ("same", ("name", holder), ("null",)), (("new", holder),), ()))
            found.append(statement)
        return tuple(found)

    def function(self, name, params, result):
        self.caller = name
        *head, body = RightMaker.function(self, name, params, result)
        if result is not None and self.chance.random() < 0.8:
            body += (self.make_return(0, False),)
        return (*head, body)

    def make_call(self, depth, in_while):
        names = ["main", "one", "two"]
        further = [head for head in self.heads if names.index(head[0]) > names.index(self.caller)]
        if not further or self.chance.random() < 0.1:
            return RightMaker.make_call(self, depth, in_while)
        name, params, result = self.chance.choice(further)
        target = None
        if result is not None and self.chance.random() < 0.9:
            target = self.variable(lambda kind: kind == result)
        return ("call", target, name, tuple(self.fitting(kind) for _, kind in params))


class NumberMaker(CarefulMaker):
    """Makes right programs that calculate with large numbers and return them."""

    def kind(self):
        return self.chance.choice([FLAG, ("num", 0, 2), LARGE, LARGE, LARGE])

    def program(self):
        self.fields, self.arrays = {}, ()
        self.shared = tuple(("g" + str(at), self.kind()) for at in range(self.chance.randrange(5)))
        self.heads = [
            (name, tuple((name + "p" + str(at), self.kind()) for at in range(count)),
             self.chance.choice([None, self.kind(), LARGE]))
            for name, count in (("one", self.chance.randrange(4)), ("two", self.chance.randrange(4)))
        ]
        self.heads.append(("main", (), None))
        return ((), (), self.shared, tuple(self.function(*head) for head in self.heads))

    def body(self, depth, in_while):
        count = 5 if depth == 4 else self.chance.randrange(3)
        return tuple(self.statement(depth, in_while) for _ in range(count))

    def statement(self, depth, in_while):
        words = ["set", "set", "set", "input", "call", "call", "return", *["if"] * min(depth, 3)]
        word = self.chance.choice(words)
        if word == "return" and self.caller == "main":
            word = "set"
        return getattr(self, "make_" + word)(depth - 1, in_while)

    def variables(self, name):
        return (*CarefulMaker.variables(self, name)[:2], (name + "w", LARGE), (name + "f", FLAG))

    def fitting(self, kind):
        if kind == LARGE:
            return self.number(2)
        return CarefulMaker.fitting(self, kind)


class GentleMaker(PlainMaker, CarefulMaker):
    """Makes plain programs whose runs go far."""

    def variables(self, name):
        results = [result for _, _, result in self.heads if result is not None]
        own = tuple((name + "r" + str(at), result) for at, result in enumerate(results))
        return PlainMaker.variables(self, name) + own


class TinyMaker:
    """Makes short plain programs whose functions call each other, and that end or go round."""

    def __init__(self, seed):
        self.chance = random.Random(seed)
        self.kinds = {}

    def program(self):
        fields = (("leaf", (("n", ("num", 0, 2)),)), ("pair", (("one", ("ref", "leaf")), ("f", FLAG))))
        shared = (("g", ("num", 0, 2)), ("p", ("ref", "pair")))
        heads = (("up", (("k", ("num", 0, 2)),), ("num", 0, 2)), ("use", (("q", ("ref", "pair")),), None),
                 ("main", (), None))
        functions = []
        for name, params, result in heads:
            own = ((name + "v", ("num", 0, 2)), (name + "l", ("ref", "leaf")), (name + "q", ("ref", "pair")))
            self.kinds = dict([*shared, *params, *own])
            body = self.body(3, False)
            if name == "main":
                body = (("input", "g"), ("new", "mainq"), *body)
            functions.append((name, params, result, own, body))
        return (fields, (), shared, tuple(functions))

    def name(self, kind):
        return self.chance.choice([name for name, other in self.kinds.items() if other == kind])

    def number(self):
        variable = ("name", self.name(("num", 0, 2)))
        return self.chance.choice([
            ("num", self.chance.randrange(3)), variable, variable, ("+", variable, ("num", 1)),
            ("-", variable, ("num", 1)),
        ])

    def flag(self):
        return self.chance.choice([
            ("<", self.number(), self.number()), ("==", self.number(), ("num", 1)),
            ("same", ("name", self.name(("ref", "pair"))), ("null",)),
        ])

    def body(self, depth, in_while):
        return tuple(self.statement(depth, in_while) for _ in range(self.chance.randrange(1, 4)))

    def statement(self, depth, in_while):
        number, leaf, pair = ("num", 0, 2), ("ref", "leaf"), ("ref", "pair")
        choices = [
            lambda: ("input", self.name(number)), lambda: ("set", self.name(number), self.number()),
            lambda: ("new", self.name(self.chance.choice([leaf, pair]))),
            lambda: ("free", self.name(self.chance.choice([leaf, pair]))),
            lambda: ("load", self.name(leaf), self.name(pair), "one"),
            lambda: ("load", self.name(number), self.name(leaf), "n"),
            lambda: ("store", self.name(leaf), "n", self.number()),
            lambda: ("store", self.name(pair), "one", ("name", self.name(leaf))),
            lambda: ("store", self.name(pair), "f", self.flag()),
            lambda: ("set", self.name(pair), ("name", self.name(pair))),
            lambda: ("call", self.name(number), "up", (self.number(),)),
            lambda: ("call", None, "use", (("name", self.name(pair)),)),
            lambda: ("assert", self.flag()),
        ]
        if in_while:
            choices.append(lambda: ("break",))
        if depth:
            choices += [
                lambda: ("if", self.flag(), self.body(depth - 1, in_while), self.body(depth - 1, in_while)),
                lambda: ("while", self.flag(), self.body(depth - 1, True)),
            ] * 3
        if "k" in self.kinds:
            choices.append(lambda: ("return", self.number()))
        return self.chance.choice(choices)()


class SimpleMaker:
    """Makes short simple programs with large kinds of few values, and records.

    With `kind` as another large kind the programs have as many values as are asked for.
    """

    def __init__(self, seed, kind=("num", 0, 8)):
        self.chance = random.Random(seed)
        self.large = kind
        self.kinds = {}

    def program(self):
        fields = (("leaf", (("n", ("num", 0, 2)), ("f", FLAG))),)
        shared = (("g", self.large), ("s", ("num", 0, 2)), ("p", ("ref", "leaf")))
        heads = (("up", (("k", self.large), ("h", FLAG)), self.large), ("down", (("k", ("num", 0, 2)),), ("num", 0, 2)),
                 ("main", (), None))
        functions = []
        for name, params, result in heads:
            own = ((name + "x", self.large), (name + "v", ("num", 0, 2)), (name + "f", FLAG), (name + "l", ("ref", "leaf")))
            self.kinds = dict([*shared, *params, *own])
            self.result = result
            body = self.body(2, False)
            if name == "main":
                body = (("input", "g"), ("new", "p"), *body, self.statement(1, False))
            functions.append((name, params, result, own, body))
        return (fields, (), shared, tuple(functions))

    def name(self, kind):
        return self.chance.choice([name for name, other in self.kinds.items() if other == kind])

    def small(self):
        variable = ("name", self.name(("num", 0, 2)))
        return self.chance.choice([
            ("num", self.chance.randrange(4)), variable, ("+", variable, ("num", 1)), ("*", variable, variable), ("-", variable, ("num", 1)),
        ])

    def number(self):
        variable = ("name", self.name(self.large))
        return self.chance.choice([
            self.small(), variable, variable, ("+", variable, self.small()), ("-", variable, self.small()), ("+", self.small(), variable),
        ])

    def flag(self, depth=1):
        word = self.chance.choice(["<", "<=", "==", "!="])
        plain = [
            lambda: (word, self.number(), self.number()), lambda: (word, self.number(), self.number()),
            lambda: ("name", self.name(FLAG)), lambda: ("same", ("name", self.name(("ref", "leaf"))), ("null",)),
        ]
        if depth:
            plain += [
                lambda: ("not", self.flag(depth - 1)), lambda: ("and", self.flag(depth - 1), self.flag(depth - 1)),
                lambda: ("or", self.flag(depth - 1), self.flag(depth - 1)),
            ]
        return self.chance.choice(plain)()

    def given(self, kind):
        if kind == FLAG:
            return self.flag()
        return self.number() if kind[0] == "num" else ("name", self.name(kind))

    def body(self, depth, in_while):
        return tuple(self.statement(depth, in_while) for _ in range(self.chance.randrange(1, 3)))

    def statement(self, depth, in_while):
        leaf = ("ref", "leaf")
        kind = self.chance.choice([self.large, self.large, ("num", 0, 2), FLAG, leaf])
        number = self.chance.choice([self.large, ("num", 0, 2), FLAG])
        choices = [
            lambda: ("input", self.name(number)), lambda: ("input", self.name(number)), lambda: ("set", self.name(kind), self.given(kind)),
            lambda: ("set", self.name(kind), self.given(kind)), lambda: ("new", self.name(leaf)), lambda: ("free", self.name(leaf)),
            lambda: ("load", self.name(("num", 0, 2)), self.name(leaf), "n"), lambda: ("store", self.name(leaf), "n", self.number()),
            lambda: ("store", self.name(leaf), "f", self.flag()), lambda: ("assert", self.flag()),
            lambda: ("call", self.name(self.large), "up", (self.number(), self.flag())),
            lambda: ("call", self.name(("num", 0, 2)), "down", (self.number(),)),
        ]
        if in_while:
            choices.append(lambda: ("break",))
        if depth:
            choices += [
                lambda: ("if", self.flag(), self.body(depth - 1, in_while), self.body(depth - 1, in_while)),
                lambda: ("while", self.flag(), self.body(depth - 1, True)),
            ] * 2
        if self.result is not None:
            choices.append(lambda: ("return", self.given(self.result)))
        return self.chance.choice(choices)()
