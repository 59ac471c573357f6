"""What a run keeps besides its frames."""

from neverhappens.kinds import start_value
from neverhappens.values import evaluate


class Memory:
    """The inputs, globals, arrays and records of a run.

    The values of a frame's parameters and locals are in a dict of the frame, called own.
    """

    def __init__(self, program, inputs):
        self.inputs = list(inputs)
        self.reads = 0
        self.shared = {name: start_value(kind) for name, kind in program[2]}
        self.arrays = {name: [start_value(("num", low, high))] * length
                       for name, length, low, high in program[1]}
        self.records = []

    def read(self):
        """The next number of the inputs, or 0 if all have been read."""
        number = self.inputs[self.reads] if self.reads < len(self.inputs) else 0
        self.reads += 1
        return number

    def value(self, expression, own):
        """The value of an expression in a frame."""
        visible = dict(self.shared)
        visible.update(own)
        return evaluate(expression, visible)

    def reference(self, name, own):
        """The value of a variable that is a reference, in a frame."""
        return self.value(("name", name), own)

    def give(self, name, own, value):
        """Gives a variable of a frame a value."""
        # A visible name is declared once, so what is no global belongs to the frame.
        if name in self.shared:
            self.shared[name] = value
        else:
            own[name] = value

    def state(self, frames):
        """The state with these frames, each a triple of a function, a place and a dict of values."""
        told = [(function, place, tuple(own.values())) for function, place, own in frames]
        arrays = [tuple(cells) for cells in self.arrays.values()]
        return (tuple(told), tuple(self.shared.values()), tuple(arrays), tuple(self.records))
