"""Writes certificates as texts, and reads them."""

from neverhappens.errors import BadCertificate
from neverhappens.fitting import is_row, key_parts
from neverhappens.rules import Rules
from neverhappens.words import number_of

PART = " | "
RECORD = " ; "
BOX_ROW = " / "
NO_VALUES = "-"
# Python itself neither writes nor reads numbers with more digits.
MOST_DIGITS = 4300
WORDS = {"true": True, "false": False, "null": None}


def value_text(value, kind):
    """The text of a value of this kind."""
    if value is None:
        return "null"
    if kind[0] == "flag":
        return "true" if value else "false"
    return f"@{value}" if kind[0] == "ref" else f"{value}"


def values_text(values, kinds):
    """The list of the texts of these values."""
    return [value_text(value, kind) for value, kind in zip(values, kinds)]


def record_text(record, fields):
    """The text of a record with these fields."""
    name, live, values = record
    words = values_text(values, [kind for _, kind in fields])
    return " ".join([name, "live" if live else "gone", *words])


def key_text(program, kinds, key):
    """The text of an entry or a key whose values are of these kinds."""
    fields = dict(program[0])
    values, records = key
    own = " ".join(values_text(values, kinds)) if values else NO_VALUES
    return RECORD.join([own, *[record_text(record, fields[record[0]]) for record in records]])


def row_text(rules, row):
    """The line of a row, without its newline."""
    name, entry, place, key, box = row
    layout = rules.layouts[name]
    kinds, _ = key_parts(layout, place)
    return PART.join([
        f"{name} {place}",
        key_text(rules.program, layout.entry_kinds, entry),
        key_text(rules.program, kinds, key),
        BOX_ROW.join([" ".join([f"{number}" for number in line]) for line in box]),
    ])


def certificate_text(program, rows):
    """The text with one line for each row."""
    rules = Rules(program)
    return "".join([row_text(rules, row) + "\n" for row in rows])


def value_of(word):
    """The value that a word stands for, or the word itself if it stands for none."""
    if word in WORDS:
        return WORDS[word]
    number = number_of(word.removeprefix("@"), MOST_DIGITS)
    return word if number is None else number


def values_of(words):
    """The tuple of the values for which these words stand."""
    return tuple([value_of(word) for word in words])


def record_of(text):
    """What may be the record with this text."""
    name, *rest = text.split(" ")
    return (name, rest[:1] == ["live"], values_of(rest[1:]))


def key_of(text):
    """What may be the entry or key with this text."""
    own, *records = text.split(RECORD)
    values = () if own == NO_VALUES else values_of(own.split(" "))
    return (values, tuple([record_of(record) for record in records]))


def box_of(text):
    """What may be the box with this text."""
    return tuple([values_of(line.split(" ")) for line in text.split(BOX_ROW)])


def row_of(text):
    """What may be the row with this line."""
    parts = text.split(PART)
    if len(parts) != 4:
        return None
    name, _, place = parts[0].partition(" ")
    return (name, key_of(parts[1]), value_of(place), key_of(parts[2]), box_of(parts[3]))


def is_line_of(rules, text, row):
    """True if the row fits the program and this is its line."""
    # What was read is written again, since other texts are read as the same row.
    return is_row(rules, row) and row_text(rules, row) == text


def read_certificate(program, text):
    """The tuple of the rows with this text."""
    rules = Rules(program)
    lines = text.split("\n")
    found = []
    for at, line in enumerate(lines[:-1]):
        row = row_of(line)
        if not is_line_of(rules, line, row):
            raise BadCertificate(at + 1)
        found.append(row)
    # Behind the last newline there is nothing.
    if lines[-1] != "":
        raise BadCertificate(len(lines))
    return tuple(found)
