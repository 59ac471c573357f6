"""A second way to run programs, by generators, to compare Machine and Walker with.

Each function of a run is a generator that stops before each visit, so that Python itself knows
where the run stands. It is for short runs only.
"""

from neverhappens.kinds import start_value


class Fault(Exception):
    pass


class Broken(Exception):
    pass


class Returned(Exception):
    pass


def size(body):
    """The number of statements in a body."""
    total = 0
    for statement in body:
        total += 1
        if statement[0] == "if":
            total += size(statement[2]) + size(statement[3])
        if statement[0] == "while":
            total += size(statement[2])
    return total


class Reference:
    """A run with the methods and attributes of Machine."""

    def __init__(self, program, inputs):
        records, arrays, shared, functions = program
        self.fields = {name: list(fields) for name, fields in records}
        self.ranges = {name: (low, high) for name, _, low, high in arrays}
        self.arrays = {name: [start_value(("num", low, high)) for _ in range(length)]
                       for name, length, low, high in arrays}
        self.global_kinds = dict(shared)
        self.globals = {name: start_value(kind) for name, kind in shared}
        self.functions = {function[0]: function for function in functions}
        self.records = []
        self.inputs = tuple(inputs)
        self.frames = []
        self.fault = None
        self.visits = 0
        self.reads = 0
        self.going = self.call("main", [])
        self.advance()

    def advance(self):
        try:
            next(self.going)
        except StopIteration:
            self.going = None
        except Fault as fault:
            self.going = None
            self.fault = fault.args[0]

    def visit(self):
        if self.going is not None:
            self.visits += 1
            self.advance()

    def outcome(self):
        if self.fault is not None:
            return ("fault", self.frames[-1]["name"], self.frames[-1]["place"], self.fault)
        if self.going is None:
            return ("end",)
        return ("going", self.frames[-1]["name"], self.frames[-1]["place"])

    def state(self):
        frames = tuple(
            (frame["name"], frame["place"], tuple(frame["values"].values()))
            for frame in self.frames
        )
        arrays = tuple(map(tuple, self.arrays.values()))
        records = tuple((name, live, tuple(fields)) for name, live, fields in self.records)
        return (frames, tuple(self.globals.values()), arrays, records)

    def call(self, name, arguments):
        _, params, result, own, body = self.functions[name]
        values = dict(zip([param[0] for param in params], arguments))
        values.update({variable: start_value(kind) for variable, kind in own})
        kinds = {**self.global_kinds, **dict(params), **dict(own)}
        self.frames.append(
            {"name": name, "place": 0, "values": values, "kinds": kinds, "result": result}
        )
        value = None if result is None else start_value(result)
        try:
            yield from self.body(body, 0)
        except Returned as returned:
            value = returned.args[0]
        self.frames.pop()
        return value

    def body(self, body, place):
        for statement in body:
            if statement[0] == "while":
                yield from self.loop(statement, place)
            else:
                self.frames[-1]["place"] = place
                yield
                yield from self.do(statement, place)
            place += size((statement,))

    def loop(self, statement, place):
        try:
            while True:
                self.frames[-1]["place"] = place
                yield
                if not self.value(statement[1]):
                    return
                yield from self.body(statement[2], place + 1)
        except Broken:
            pass

    def do(self, statement, place):
        word = statement[0]
        if word == "if":
            if self.value(statement[1]):
                yield from self.body(statement[2], place + 1)
            else:
                yield from self.body(statement[3], place + 1 + size(statement[2]))
        elif word == "call":
            params = self.functions[statement[2]][1]
            values = [self.value(argument) for argument in statement[3]]
            for (_, kind), value in zip(params, values):
                self.range_check(kind, value)
            result = yield from self.call(statement[2], values)
            if statement[1] is not None:
                self.give(statement[1], result)
        else:
            getattr(self, "do_" + word)(*statement[1:])

    def value(self, expression):
        word, *parts = expression
        if word == "name":
            values = self.frames[-1]["values"]
            return values[parts[0]] if parts[0] in values else self.globals[parts[0]]
        if word in ("num", "flag"):
            return parts[0]
        if word == "null":
            return None
        values = [self.value(part) for part in parts]
        if word == "not":
            return values[0] is False
        left, right = values
        return {
            "+": lambda: left + right,
            "-": lambda: left - right,
            "*": lambda: left * right,
            "<": lambda: left < right,
            "<=": lambda: not right < left,
            "==": lambda: left == right,
            "!=": lambda: not left == right,
            "same": lambda: left is None and right is None or left == right,
            "and": lambda: left is True and right is True,
            "or": lambda: left is True or right is True,
        }[word]()

    def give(self, name, value):
        where = self.globals if name in self.globals else self.frames[-1]["values"]
        where[name] = value

    def range_check(self, kind, value):
        if kind[0] == "num" and value not in range(kind[1], kind[2] + 1):
            raise Fault("range")

    def record_of(self, name):
        number = self.value(("name", name))
        if number is None:
            raise Fault("null")
        if not self.records[number][1]:
            raise Fault("gone")
        return self.records[number]

    def field_of(self, record, field):
        return [name for name, _ in self.fields[record[0]]].index(field)

    def do_set(self, name, expression):
        value = self.value(expression)
        self.range_check(self.frames[-1]["kinds"][name], value)
        self.give(name, value)

    def do_input(self, name):
        number = self.inputs[self.reads] if self.reads < len(self.inputs) else 0
        self.reads += 1
        kind = self.frames[-1]["kinds"][name]
        if kind == ("flag",):
            self.give(name, number % 2 == 1)
        else:
            values = range(kind[1], kind[2] + 1)
            self.give(name, values[number % len(values)])

    def do_new(self, name):
        record = self.frames[-1]["kinds"][name][1]
        self.records.append([record, True, [start_value(kind) for _, kind in self.fields[record]]])
        self.give(name, len(self.records) - 1)

    def do_free(self, name):
        record = self.record_of(name)
        record[1:] = [False, []]

    def do_load(self, name, holder, field):
        record = self.record_of(holder)
        self.give(name, record[2][self.field_of(record, field)])

    def do_store(self, holder, field, expression):
        record = self.record_of(holder)
        value = self.value(expression)
        self.range_check(dict(self.fields[record[0]])[field], value)
        record[2][self.field_of(record, field)] = value

    def element_of(self, array, expression):
        index = self.value(expression)
        if index not in range(len(self.arrays[array])):
            raise Fault("index")
        return index

    def do_get(self, name, array, expression):
        self.give(name, self.arrays[array][self.element_of(array, expression)])

    def do_put(self, array, place, expression):
        index = self.element_of(array, place)
        value = self.value(expression)
        self.range_check(("num", *self.ranges[array]), value)
        self.arrays[array][index] = value

    def do_return(self, expression):
        value = None if expression is None else self.value(expression)
        if expression is not None:
            self.range_check(self.frames[-1]["result"], value)
        raise Returned(value)

    def do_break(self):
        raise Broken()

    def do_assert(self, expression):
        if not self.value(expression):
            raise Fault("assert")
