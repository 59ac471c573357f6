"""Runs a program along the bodies of its functions."""

from neverhappens.effects import argument_values, carry_out, first_values, last_value, returned_value
from neverhappens.memory import Memory
from neverhappens.scopes import Scope
from neverhappens.statements import bodies_of


def numbered_body(body, place):
    """The body with places, and the place behind it.

    A body with places is a tuple of triples: a statement's place, the statement, and the tuple of
    its own bodies with places.
    """
    found = []
    for statement in body:
        at = place
        place += 1
        inner = []
        for part in bodies_of(statement):
            numbered, place = numbered_body(part, place)
            inner.append(numbered)
        found.append((at, statement, tuple(inner)))
    return tuple(found), place


class BodyFrame:
    """A frame with its way into the bodies of its function."""

    def __init__(self, scope, own, body):
        self.scope = scope
        self.own = own
        # The result, if the frame ends without a return.
        self.worth = last_value(scope)
        # Pairs of a body and the index in it, the innermost last. Each pair but the last one
        # stands at the if or while whose body comes next. Without pairs no statement is left.
        self.way = [(body, 0)]
        self.leave_ended_bodies()

    def item(self):
        """The triple (place, statement, bodies) at which the frame stands."""
        body, index = self.way[-1]
        return body[index]

    def leave_ended_bodies(self):
        """Goes up to a statement that is left, if the innermost body has none any more."""
        while self.way and self.way[-1][1] == len(self.way[-1][0]):
            self.way.pop()
            # Behind the body of a while the while itself is visited again.
            if self.way and self.item()[1][0] == "if":
                self.step_over()

    def step_over(self):
        """Moves the index behind the statement at which the frame stands."""
        body, index = self.way[-1]
        self.way[-1] = (body, index + 1)

    def go_on(self):
        """Goes to what comes after the statement at which the frame stands."""
        self.step_over()
        self.leave_ended_bodies()

    def go_into(self, body):
        """Goes to the beginning of a body of the if or while at which the frame stands."""
        self.way.append((body, 0))
        self.leave_ended_bodies()

    def leave(self, value):
        """Ends with this result."""
        self.worth = value
        self.way.clear()

    def break_out(self):
        """Goes to what comes after the innermost while."""
        while self.item()[1][0] != "while":
            self.way.pop()
        self.go_on()


class Machine:
    """A run of a program, which begins at its start."""

    def __init__(self, program, inputs):
        self.memory = Memory(program, inputs)
        self.scopes = {function[0]: Scope(program, function) for function in program[3]}
        self.bodies = {function[0]: numbered_body(function[4], 0)[0] for function in program[3]}
        self.frames = []
        self.fault = None
        self.visits = 0
        self.reads = 0
        self.begin_frame("main", ())
        self.end_frames()

    def visit(self):
        """Carries out one visit; does nothing if the run is over."""
        if self.fault is not None or not self.frames:
            return
        self.visits += 1
        frame = self.frames[-1]
        _, statement, bodies = frame.item()
        word = statement[0]
        if word == "if" or word == "while":
            self.visit_test(frame, statement, bodies)
        elif word == "break":
            frame.break_out()
        elif word == "call":
            self.visit_call(frame, statement)
        elif word == "return":
            self.visit_return(frame, statement)
        else:
            self.visit_simple(frame, statement)
        self.end_frames()
        self.reads = self.memory.reads

    def outcome(self):
        """What the next visit will carry out, or how the run has ended."""
        if not self.frames:
            return ("end",)
        frame = self.frames[-1]
        at = (frame.scope.name, frame.item()[0])
        return ("going", *at) if self.fault is None else ("fault", *at, self.fault)

    def state(self):
        """The state of the run: its frames, globals, arrays and records."""
        frames = [(frame.scope.name, frame.item()[0], frame.own) for frame in self.frames]
        return self.memory.state(frames)

    def visit_test(self, frame, statement, bodies):
        """Visits an if or a while."""
        if self.memory.value(statement[1], frame.own):
            frame.go_into(bodies[0])
        elif statement[0] == "if":
            frame.go_into(bodies[1])
        else:
            frame.go_on()

    def visit_call(self, frame, statement):
        """Visits a call."""
        values = argument_values(self.memory, frame.scope, frame.own, statement)
        if values is None:
            self.fault = "range"
        else:
            self.begin_frame(statement[2], values)

    def visit_return(self, frame, statement):
        """Visits a return."""
        self.fault, value = returned_value(self.memory, frame.scope, frame.own, statement[1])
        if self.fault is None:
            frame.leave(value)

    def visit_simple(self, frame, statement):
        """Visits a statement that leads to the one behind it."""
        self.fault = carry_out(self.memory, frame.scope, frame.own, statement)
        if self.fault is None:
            frame.go_on()

    def begin_frame(self, name, values):
        """Puts a frame on top."""
        scope = self.scopes[name]
        own = first_values(scope.functions[name], values)
        self.frames.append(BodyFrame(scope, own, self.bodies[name]))

    def end_frames(self):
        """Removes the top frame if it has no statement left, and those that end with it."""
        while self.frames and not self.frames[-1].way:
            ended = self.frames.pop()
            if self.frames:
                below = self.frames[-1]
                target = below.item()[1][1]
                if target is not None:
                    self.memory.give(target, below.own, ended.worth)
                below.go_on()


def run(program, inputs, visits):
    """The triple (outcome, visits, reads) of the run after this number of visits."""
    machine = Machine(program, inputs)
    while machine.visits < visits and machine.outcome()[0] == "going":
        machine.visit()
    return (machine.outcome(), machine.visits, machine.reads)
