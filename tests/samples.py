"""Values and programs that several tests use."""

DOOR_TEXT = """\
record door
  open: flag
end
global last: door
def shut(d: door, times: 0..3): flag
  var was: flag
  was = d.open
  if (was and (times < 3))
    d.open = false
    free d
  else
    last = d
  end
  return was
end
def main()
  var d: door
  d = new
  while true
    shut(d, 2)
  end
end
"""

DOOR = (
    (("door", (("open", ("flag",)),)),),
    (),
    (("last", ("ref", "door")),),
    (
        (
            "shut",
            (("d", ("ref", "door")), ("times", ("num", 0, 3))),
            ("flag",),
            (("was", ("flag",)),),
            (
                ("load", "was", "d", "open"),
                (
                    "if",
                    ("and", ("name", "was"), ("<", ("name", "times"), ("num", 3))),
                    (("store", "d", "open", ("flag", False)), ("free", "d")),
                    (("set", "last", ("name", "d")),),
                ),
                ("return", ("name", "was")),
            ),
        ),
        (
            "main",
            (),
            None,
            (("d", ("ref", "door")),),
            (
                ("new", "d"),
                (
                    "while",
                    ("flag", True),
                    (("call", None, "shut", (("name", "d"), ("num", 2))),),
                ),
            ),
        ),
    ),
)

EMPTY = ((), (), (), ())

OPERATORS = ("+", "-", "*", "<", "<=", "==", "!=", "same", "and", "or")

RESERVED = (
    "record end array global def var flag input new free return if else while break assert null"
    " true false not and or same result"
).split()

A = ("name", "a")
B = ("name", "b")
C = ("name", "c")

# Each expression of point 8 with its text.
EXPRESSIONS = [
    (("num", 0), "0"),
    (("num", 1), "1"),
    (("num", -7), "-7"),
    (("num", 10 ** 9), "1000000000"),
    (("num", -(10 ** 9)), "-1000000000"),
    (("flag", True), "true"),
    (("flag", False), "false"),
    (("null",), "null"),
    (("name", "x"), "x"),
    (("name", "a1b22"), "a1b22"),
    (("+", A, B), "(a + b)"),
    (("-", A, ("num", -1)), "(a - -1)"),
    (("*", ("num", 2), B), "(2 * b)"),
    (("<", A, B), "(a < b)"),
    (("<=", A, B), "(a <= b)"),
    (("==", A, B), "(a == b)"),
    (("!=", A, B), "(a != b)"),
    (("same", A, ("null",)), "(a same null)"),
    (("and", A, ("flag", True)), "(a and true)"),
    (("or", ("flag", False), B), "(false or b)"),
    (("not", A), "(not a)"),
    (("not", ("not", A)), "(not (not a))"),
    (("+", ("*", A, B), ("-", B, A)), "((a * b) + (b - a))"),
    (("and", ("not", A), ("or", ("<", A, B), ("not", ("same", A, B)))),
     "((not a) and ((a < b) or (not (a same b))))"),
]

# Each statement of point 9 that is one line, with its text.
SIMPLE = [
    (("set", "x", ("num", -3)), "x = -3"),
    (("set", "x", ("+", A, B)), "x = (a + b)"),
    (("set", "x", A), "x = a"),
    (("input", "x"), "x = input"),
    (("new", "x"), "x = new"),
    (("free", "x"), "free x"),
    (("load", "x", "y", "f"), "x = y.f"),
    (("store", "y", "f", ("null",)), "y.f = null"),
    (("store", "y", "f", ("==", A, B)), "y.f = (a == b)"),
    (("get", "x", "a", ("-", A, B)), "x = a[(a - b)]"),
    (("put", "a", ("num", 0), ("num", 1)), "a[0] = 1"),
    (("put", "a", ("+", A, ("num", 1)), ("*", A, B)), "a[(a + 1)] = (a * b)"),
    (("call", None, "g", ()), "g()"),
    (("call", "x", "g", ()), "x = g()"),
    (("call", None, "g", (A,)), "g(a)"),
    (("call", "x", "g", (A, ("<", A, B), ("null",))), "x = g(a, (a < b), null)"),
    (("return", None), "return"),
    (("return", ("not", A)), "return (not a)"),
    (("return", A), "return a"),
    (("break",), "break"),
    (("assert", ("flag", True)), "assert true"),
    (("assert", ("!=", A, B)), "assert (a != b)"),
]

BREAK = ("break",)
STOP = ("return", None)

# Statements with bodies, with their lines.
NESTED = [
    (("if", A, (), ()), ["if a", "end"]),
    (("if", A, (STOP,), ()), ["if a", "  return", "end"]),
    (("if", A, (), (STOP,)), ["if a", "else", "  return", "end"]),
    (("if", ("not", A), (STOP, BREAK), (BREAK, STOP)),
     ["if (not a)", "  return", "  break", "else", "  break", "  return", "end"]),
    (("while", A, ()), ["while a", "end"]),
    (("while", ("<", A, B), (BREAK, STOP)), ["while (a < b)", "  break", "  return", "end"]),
    (("while", A, (("if", B, (("while", C, ()),), (("if", C, (), (BREAK,)), STOP)), STOP)),
     ["while a", "  if b", "    while c", "    end", "  else", "    if c", "    else",
      "      break", "    end", "    return", "  end", "  return", "end"]),
    (("if", A, (("if", B, (), ()),), (("if", C, (), ()),)),
     ["if a", "  if b", "  end", "else", "  if c", "  end", "end"]),
]


def function_with(*body):
    """A function with this body."""
    return ("f", (), None, (), body)


def nested_deep(depth, innermost):
    """The innermost body within this many whiles and ifs, by turns."""
    body = innermost
    for level in range(depth):
        body = (("while", A, body),) if level % 2 else (("if", A, (), body),)
    return body
