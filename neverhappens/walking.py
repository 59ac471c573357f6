"""Runs a program along the graphs of its functions."""

from neverhappens.effects import argument_values, carry_out, first_values, last_value, returned_value
from neverhappens.graphs import nodes
from neverhappens.memory import Memory
from neverhappens.scopes import Scope


class PlaceFrame:
    """A frame that knows nothing but its place in the graph of its function."""

    def __init__(self, scope, own):
        self.scope = scope
        self.own = own
        # The result, if the frame ends without a return.
        self.worth = last_value(scope)
        self.place = 0


class Walker:
    """A run of a program, which begins at its start."""

    def __init__(self, program, inputs):
        self.memory = Memory(program, inputs)
        self.scopes = {function[0]: Scope(program, function) for function in program[3]}
        self.graphs = {function[0]: nodes(function) for function in program[3]}
        self.frames = []
        self.fault = None
        self.visits = 0
        self.reads = 0
        self.begin_frame("main", ())
        self.end_frames()

    def visit(self):
        """Carries out one visit; does nothing if the run is over."""
        if self.fault is not None or not self.frames:
            return
        self.visits += 1
        frame = self.frames[-1]
        step, after, other = self.node(frame)
        if step[0] == "test":
            frame.place = after if self.memory.value(step[1], frame.own) else other
        elif step[0] == "go":
            frame.place = after
        elif step[0] == "call":
            self.walk_into(frame, step)
        else:
            self.walk_on(frame, step, after)
        self.end_frames()
        self.reads = self.memory.reads

    def outcome(self):
        """What the next visit will carry out, or how the run has ended."""
        if not self.frames:
            return ("end",)
        frame = self.frames[-1]
        at = (frame.scope.name, frame.place)
        return ("going", *at) if self.fault is None else ("fault", *at, self.fault)

    def state(self):
        """The state of the run: its frames, globals, arrays and records."""
        frames = [(frame.scope.name, frame.place, frame.own) for frame in self.frames]
        return self.memory.state(frames)

    def node(self, frame):
        """The node at which the frame stands."""
        return self.graphs[frame.scope.name][frame.place]

    def walk_into(self, frame, step):
        """Visits a call."""
        values = argument_values(self.memory, frame.scope, frame.own, step)
        if values is None:
            self.fault = "range"
        else:
            self.begin_frame(step[2], values)

    def walk_on(self, frame, step, after):
        """Visits a statement that neither branches nor calls."""
        if step[0] == "return":
            self.fault, value = returned_value(self.memory, frame.scope, frame.own, step[1])
        else:
            self.fault = carry_out(self.memory, frame.scope, frame.own, step)
            value = frame.worth
        if self.fault is None:
            frame.worth = value
            frame.place = after

    def begin_frame(self, name, values):
        """Puts a frame on top."""
        scope = self.scopes[name]
        self.frames.append(PlaceFrame(scope, first_values(scope.functions[name], values)))

    def end_frames(self):
        """Removes the top frame if it is at its exit, and those that end with it."""
        while self.frames and self.frames[-1].place == len(self.graphs[self.frames[-1].scope.name]):
            ended = self.frames.pop()
            if self.frames:
                below = self.frames[-1]
                step, after, _ = self.node(below)
                if step[1] is not None:
                    self.memory.give(step[1], below.own, ended.worth)
                below.place = after


def walk(program, inputs, visits):
    """The triple (outcome, visits, reads) of the run after this number of visits."""
    walker = Walker(program, inputs)
    while walker.visits < visits and walker.outcome()[0] == "going":
        walker.visit()
    return (walker.outcome(), walker.visits, walker.reads)
