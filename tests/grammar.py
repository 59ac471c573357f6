"""A second reading of points 13 to 18, by patterns, to compare read_program with."""

import re

from tests.samples import RESERVED

NAME = r"(?!(?:" + "|".join(RESERVED) + r")\b)[a-z][a-z0-9]*"
NUMBER = r"(?:0|-?[1-9][0-9]{0,3999})"
KIND = r"(?:flag|" + NUMBER + r"\.\." + NUMBER + "|" + NAME + ")"
PAIR = NAME + ": " + KIND
# What has been found to be an expression is replaced by an @.
ATOM = r"(?:@|" + NUMBER + "|true|false|null|" + NAME + ")"
BRACKETS = re.compile(
    r"\((?:not " + ATOM + "|" + ATOM + r" (?:[-+*<]|<=|==|!=|same|and|or) " + ATOM + r")\)"
)
FORMS = [re.compile(form) for form in (
    NAME + r" = (?:input|new|E)",
    "free " + NAME,
    NAME + " = " + NAME + r"\." + NAME,
    NAME + r"\." + NAME + " = E",
    NAME + " = " + NAME + r"\[E\]",
    NAME + r"\[E\] = E",
    "(?:" + NAME + " = )?" + NAME + r"\((?:E(?:, E)*)?\)",
    "return(?: E)?",
    "break",
    "assert E",
)]
OPENING = re.compile("(if|while) E")
RECORD = re.compile("record " + NAME)
FIELD = re.compile("  " + PAIR)
ARRAY = re.compile("array " + NAME + r"\[" + NUMBER + r"\]: " + NUMBER + r"\.\." + NUMBER)
GLOBAL = re.compile("global " + PAIR)
HEAD = re.compile("def " + NAME + r"\((?:" + PAIR + "(?:, " + PAIR + r")*)?\)(?:: " + KIND + ")?")
VAR = re.compile("  var " + PAIR)


def matches(form, text):
    """True if the text has the form, in which E stands for an expression."""
    while True:
        shorter = BRACKETS.sub("@", text)
        if shorter == text:
            break
        text = shorter
    return re.fullmatch(form.pattern.replace("E", ATOM), text) is not None


def is_expression(text):
    return "@" not in text and matches(re.compile("E"), text)


class Oracle:
    """Tells by patterns which line of a text is refused."""

    def __init__(self, functions_only):
        self.functions_only = functions_only
        self.section = "def" if functions_only else "record"
        self.open = []
        self.ended = False

    def line_fits(self, line):
        if "@" in line:
            return False
        if not self.open:
            return self.top_fits(line)
        if self.open == ["record"]:
            if line == "end":
                self.open.pop()
                return True
            return FIELD.fullmatch(line) is not None
        return self.inner_fits(line)

    def top_fits(self, line):
        order = ["record", "array", "global", "def"]
        forms = {"record": RECORD, "array": ARRAY, "global": GLOBAL, "def": HEAD}
        word = line.split(" ")[0]
        if self.functions_only and (self.ended or word != "def"):
            return False
        if word not in order or order.index(word) < order.index(self.section):
            return False
        self.section = word
        if word in ("record", "def"):
            self.open.append({"record": "record", "def": "head"}[word])
        return forms[word].fullmatch(line) is not None

    def inner_fits(self, line):
        indent = "  " * (len(self.open) - 1)
        top = self.open[-1]
        if line == indent + "end":
            if top == "else, still empty":
                return False
            self.open.pop()
            self.ended = not self.open
            return True
        if line == indent + "else":
            self.open[-1] = "else, still empty"
            return top == "if"
        if top == "head" and VAR.fullmatch(line):
            return True
        if not line.startswith(indent + "  "):
            return False
        text = line[len(indent) + 2:]
        if top in ("head", "else, still empty"):
            self.open[-1] = {"head": "def", "else, still empty": "else"}[top]
        if matches(OPENING, text):
            self.open.append(text.split(" ")[0])
            return True
        return any(matches(form, text) for form in FORMS)


def refused_line(text, functions_only=False):
    """The line that BadText names, or None if the text is read."""
    oracle = Oracle(functions_only)
    lines = text.split("\n")
    for at, line in enumerate(lines[:-1]):
        if not oracle.line_fits(line):
            return at + 1
    complete = not oracle.open and (oracle.ended or not functions_only)
    if lines[-1] != "" or not complete:
        return len(lines)
    return None
