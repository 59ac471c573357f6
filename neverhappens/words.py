"""Reads the words of a text: names, numbers, kinds and declarations.

Each function that reads returns None where the text is not the text of such a thing.
"""

LETTERS = "abcdefghijklmnopqrstuvwxyz"
DIGITS = "0123456789"
MOST_DIGITS = 4000
RESERVED = (
    "record", "end", "array", "global", "def", "var", "flag", "input", "new", "free", "return",
    "if", "else", "while", "break", "assert", "null", "true", "false", "not", "and", "or", "same",
    "result",
)


def consists_of(text, characters):
    """True if the text has no other characters than these."""
    return all([character in characters for character in text])


def is_name(text):
    """True if the text is a name."""
    if text == "" or text[0] not in LETTERS or text in RESERVED:
        return False
    return consists_of(text, LETTERS + DIGITS)


def number_of(text, most=MOST_DIGITS):
    """The number with this text, if it has not more than so many digits."""
    digits = text.removeprefix("-")
    if digits == "" or len(digits) > most or not consists_of(digits, DIGITS):
        return None
    if digits[0] == "0" and text != "0":
        return None
    return int(text)


def range_of_text(text):
    """The pair of the two numbers of a range."""
    low, _, high = text.partition("..")
    ends = (number_of(low), number_of(high))
    return None if None in ends else ends


def kind_of(text):
    """The kind with this text."""
    if text == "flag":
        return ("flag",)
    if is_name(text):
        return ("ref", text)
    ends = range_of_text(text)
    return None if ends is None else ("num", *ends)


def declaration_of(text):
    """The pair of a name and a kind with this text."""
    name, _, rest = text.partition(": ")
    kind = kind_of(rest)
    return (name, kind) if is_name(name) and kind is not None else None
