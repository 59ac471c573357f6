"""Puts the lines of records, functions and programs together.

Each reader takes the lines one by one. A reader that has refused a line is not used any more.
"""

from neverhappens.lines import head_of, statement_of
from neverhappens.words import declaration_of, is_name, number_of, range_of_text

STEP = "  "
SECTIONS = ("record", "array", "global", "def")


def array_of(text):
    """The array with this text behind the word `array`, or None."""
    name, _, rest = text.partition("[")
    inside, _, ends = rest.partition("]: ")
    length = number_of(inside)
    limits = range_of_text(ends)
    if not is_name(name) or length is None or limits is None:
        return None
    return (name, length, *limits)


class Block:
    """A body that is still open: that of a function, an if or a while."""

    def __init__(self, word, test):
        self.word = word
        self.test = test
        self.bodies = [[]]

    def turn(self):
        """Takes the line `else`; False if it cannot stand here."""
        if self.word != "if" or len(self.bodies) > 1:
            return False
        self.bodies.append([])
        return True

    def may_end(self):
        """False directly behind an `else`: an empty second body has no `else`."""
        return len(self.bodies) == 1 or len(self.bodies[1]) > 0

    def statement(self):
        """The if or while that this block is."""
        first = tuple(self.bodies[0])
        if self.word == "while":
            return ("while", self.test, first)
        return ("if", self.test, first, tuple(self.bodies[1]) if len(self.bodies) > 1 else ())


class RecordReader:
    """Takes the lines of one record kind."""

    def __init__(self):
        self.name = None
        self.fields = []
        self.done = False

    def takes(self, line):
        """Takes the next line; False if it cannot stand here."""
        if self.name is None:
            self.name = line.removeprefix("record ")
            return line.startswith("record ") and is_name(self.name)
        if line == "end":
            self.done = True
            return True
        field = declaration_of(line.removeprefix(STEP))
        self.fields.append(field)
        return line.startswith(STEP) and field is not None

    def built(self):
        """The record kind, once it is done."""
        return (self.name, tuple(self.fields))


class FunctionReader:
    """Takes the lines of one function."""

    def __init__(self):
        self.head = None
        self.variables = []
        # The open blocks, the innermost last; the first one is the function's own body.
        self.blocks = [Block("def", None)]
        self.body = None
        self.done = False

    def takes(self, line):
        """Takes the next line; False if it cannot stand here."""
        if self.done:
            return False
        if self.head is None:
            self.head = head_of(line)
            return self.head is not None
        margin = STEP * (len(self.blocks) - 1)
        if line == margin + "end":
            return self.close()
        if line == margin + "else":
            return self.blocks[-1].turn()
        return line.startswith(margin + STEP) and self.takes_inside(line[len(margin + STEP):])

    def close(self):
        """Takes the `end` of the innermost block; False if it cannot stand here."""
        block = self.blocks.pop()
        if not block.may_end():
            return False
        if self.blocks:
            self.put(block.statement())
        else:
            self.body = tuple(block.bodies[0])
            self.done = True
        return True

    def put(self, statement):
        """Puts a statement behind the others of the innermost body."""
        self.blocks[-1].bodies[-1].append(statement)

    def takes_inside(self, text):
        """Takes a line of the innermost body; False if it cannot stand here."""
        if text.startswith("var "):
            variable = declaration_of(text.removeprefix("var "))
            self.variables.append(variable)
            return variable is not None and self.is_above_body()
        statement = statement_of(text)
        if statement is None:
            return False
        if statement[0] == "if" or statement[0] == "while":
            self.blocks.append(Block(statement[0], statement[1]))
        else:
            self.put(statement)
        return True

    def is_above_body(self):
        """True as long as no statement has begun."""
        return len(self.blocks) == 1 and not self.blocks[0].bodies[0]

    def built(self):
        """The function, once it is done."""
        name, params, result = self.head
        return (name, params, result, tuple(self.variables), self.body)


class ProgramReader:
    """Takes the lines of a program."""

    def __init__(self):
        # One list for the records, the arrays, the globals and the functions.
        self.sections = [[], [], [], []]
        self.section = 0
        self.inner = None
        self.done = True

    def takes(self, line):
        """Takes the next line; False if it cannot stand here."""
        if self.inner is None:
            return self.takes_first(line)
        return self.takes_within(line)

    def takes_within(self, line):
        """Takes a line of the record kind or function that is open."""
        if not self.inner.takes(line):
            return False
        self.done = self.inner.done
        if self.done:
            self.sections[self.section].append(self.inner.built())
            self.inner = None
        return True

    def takes_first(self, line):
        """Takes a line outside of record kinds and functions."""
        word, _, rest = line.partition(" ")
        if word not in SECTIONS[self.section:]:
            return False
        self.section = SECTIONS.index(word)
        if word == "record" or word == "def":
            self.inner = RecordReader() if word == "record" else FunctionReader()
            return self.takes_within(line)
        found = array_of(rest) if word == "array" else declaration_of(rest)
        self.sections[self.section].append(found)
        return found is not None

    def built(self):
        """The program, once it is done."""
        return tuple([tuple(section) for section in self.sections])
