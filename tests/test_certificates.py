"""Points 67 and 68: texts of certificates."""

import unittest

from neverhappens.analysis import analyse
from neverhappens.certificates import certificate_text, read_certificate
from neverhappens.errors import BadCertificate
from neverhappens.reading import read_program
from neverhappens.rules import Rules
from tests.making import CarefulMaker, NumberMaker, PlainMaker
from tests.samples import DOOR
from tests.slow import NO_COLUMNS
from tests.tabling import slow_sorted
from tests.test_checker import KINDS
from tests.test_tables import TEXTS

ENTRY = ((None, 0, 2), (("door", True, (False,)),))
EXAMPLE = ("shut", ENTRY, 0, ((None, 0, 2, False), ENTRY[1]), ((0,),))
LINE = "shut 0 | null @0 2 ; door live false | null @0 2 false ; door live false | 0"

# Negative numbers, records with several fields and without fields, columns, a result.
MANY = """\
record dot
end
record leaf
  n: -3..2
  f: flag
  d: dot
end
record pair
  one: leaf
  two: leaf
end
global p: pair
global big: -20..50
def use(k: -3..3, q: pair): -40..40
  return (big - 1)
end
def main()
  var x: -40..40
  x = use(-2, p)
end
"""

DOT = ("dot", True, ())
LEAF = ("leaf", True, (-3, True, 2))
PAIR = ("pair", True, (1, None))
BOX = ((0, 20, 20), (50, 0, 70), (50, 70, 0))
RECORDS_TEXT = "pair live @1 null ; leaf live -3 true @2 ; dot live"
BOX_TEXT = "0 20 20 / 50 0 70 / 50 70 0"

# Rows of the program above, with their lines.
ROWS = [
    (("use", ((0, -2, 0), (PAIR, LEAF, DOT)), 0, ((0, -2, 0), (PAIR, LEAF, DOT)), BOX),
     f"use 0 | @0 -2 @0 ; {RECORDS_TEXT} | @0 -2 @0 ; {RECORDS_TEXT} | {BOX_TEXT}"),
    (("use", ((None, 3, None), ()), 0, ((None, 0, None), ()), BOX),
     f"use 0 | null 3 null | null 0 null | {BOX_TEXT}"),
    (("use", ((0, 1, None), (("pair", False, ()),)), 0, ((None, 1, 0), (("pair", False, ()),)), BOX),
     f"use 0 | @0 1 null ; pair gone | null 1 @0 ; pair gone | {BOX_TEXT}"),
    (("use", ((0, 1, 0), (PAIR, ("leaf", False, ()))), 1, ((0,), (PAIR, ("leaf", False, ()))),
      ((0, 20, 40, 20), (50, 0, 90, 70), (40, 60, 0, 60), (50, 70, 90, 0))),
     "use 1 | @0 1 @0 ; pair live @1 null ; leaf gone | @0 ; pair live @1 null ; leaf gone"
     " | 0 20 40 20 / 50 0 90 70 / 40 60 0 60 / 50 70 90 0"),
]


class TestTexts(unittest.TestCase):
    def test_example_of_the_document(self):
        self.assertEqual(certificate_text(DOOR, (EXAMPLE,)), LINE + "\n")
        self.assertEqual(read_certificate(DOOR, LINE + "\n"), (EXAMPLE,))

    def test_rows(self):
        program = read_program(MANY)
        for row, line in ROWS:
            self.assertEqual(certificate_text(program, (row,)), line + "\n")
            self.assertEqual(repr(read_certificate(program, line + "\n")), repr((row,)))
        rows, lines = zip(*ROWS)
        text = "".join(line + "\n" for line in lines)
        self.assertEqual(certificate_text(program, rows), text)
        self.assertEqual(repr(read_certificate(program, text)), repr(rows))

    def test_no_values_and_no_records(self):
        program = read_program("def main()\nend\n")
        row = ("main", ((), ()), 0, ((), ()), NO_COLUMNS)
        self.assertEqual(certificate_text(program, (row,)), "main 0 | - | - | 0\n")
        self.assertEqual(read_certificate(program, "main 0 | - | - | 0\n"), (row,))

    def test_no_values_with_records(self):
        """At the exit no value is left, but the record of the entry stays."""
        program = read_program("record dot\nend\ndef f(d: dot)\nend\ndef main()\nend\n")
        for live, word in ((True, "live"), (False, "gone")):
            records = (("dot", live, ()),)
            row = ("f", ((0,), records), 0, ((), records), NO_COLUMNS)
            line = f"f 0 | @0 ; dot {word} | - ; dot {word} | 0\n"
            self.assertEqual(certificate_text(program, (row,)), line)
            self.assertEqual(read_certificate(program, line), (row,))

    def test_in_the_order_given_and_any_rows(self):
        program = read_program(MANY)
        rows = tuple(row for row, _ in reversed(ROWS))
        text = "".join(line + "\n" for _, line in reversed(ROWS))
        self.assertEqual(certificate_text(program, rows), text)
        # The same row twice, and rows that lead to others that are not there.
        self.assertEqual(certificate_text(program, rows[:1] * 3), text.split("\n")[0].join(["", "\n"]) * 3)
        self.assertEqual(read_certificate(program, text[:text.index("\n") + 1] * 3), rows[:1] * 3)

    def test_empty(self):
        self.assertEqual(certificate_text(DOOR, ()), "")
        self.assertEqual(read_certificate(DOOR, ""), ())

    def test_analyses_are_read_back(self):
        programs = [DOOR, *[read_program(text) for text in (*TEXTS, KINDS, MANY)]]
        for seed in range(25):
            programs += [maker(seed).program() for maker in (CarefulMaker, NumberMaker, PlainMaker)]
        lines = 0
        for program in programs:
            for rows in (analyse(program, limit=300).first, analyse(program, limit=300, rounds=4).rows):
                text = certificate_text(program, rows)
                self.assertEqual(text.count("\n"), len(rows))
                self.assertLessEqual(set(text), set("abcdefghijklmnopqrstuvwxyz0123456789-@;/| \n"))
                self.assertEqual(repr(read_certificate(program, text)), repr(rows))
                lines += len(rows)
        self.assertGreater(lines, 3000)

    def test_order_of_the_table(self):
        rows = analyse(DOOR).rows
        text = certificate_text(DOOR, rows)
        self.assertEqual(read_certificate(DOOR, text), slow_sorted(DOOR, rows))


class TestFaults(unittest.TestCase):
    def check(self, program, lines, bad):
        """The bad line is refused with its number wherever it stands."""
        for at in range(len(lines) + 1):
            told = [*lines[:at], bad, *lines[at:]]
            text = "".join(line + "\n" for line in told)
            self.refused(program, text, at + 1)
            if text[-2:] != "\n\n":
                self.refused(program, text[:-1], at + 1)
            self.refused(program, text + "more", at + 1)
            self.refused(program, text + bad + "\n", at + 1)

    def refused(self, program, text, line):
        with self.assertRaises(BadCertificate, msg=text) as caught:
            read_certificate(program, text)
        self.assertEqual(caught.exception.line, line, text)

    def test_each_kind_of_fault(self):
        program = read_program(MANY)
        lines = [line for _, line in ROWS]
        first, plain, gone, _ = lines
        for bad in (
            "", " ", "|", "-", "0", "use", "use 0", "use 0 | - | - | 0", "main 0 | - | -", "main 0 | - | - | 0 | 0",
            "other" + plain[3:], "Use" + plain[3:], plain + " ", " " + plain, plain + " | 0", plain.replace(" | ", "|", 1),
            plain.replace(" | ", "  | ", 1), plain.replace(" / ", "/", 1), plain.replace(" / ", " // ", 1),
            plain.replace("use 0", "use 2"), plain.replace("use 0", "use -1"), plain.replace("use 0", "use 00"),
            plain.replace("use 0", "use +0"), plain.replace("use 0", "use  0"), plain.replace("use 0", "use"),
            plain.replace("use 0", "use 0 0"), plain.replace("use 0", "use true"), plain.replace("use 0", "use @0"),
            plain.replace("use 0", "use 1"),
            plain.replace("null 3 null", "null 4 null"), plain.replace("null 3 null", "null 03 null"),
            plain.replace("null 3 null", "null 3"), plain.replace("null 3 null", "null 3 null null"),
            plain.replace("null 3 null", "null @3 null"), plain.replace("null 3 null", "null true null"),
            plain.replace("null 3 null", "3 null null"), plain.replace("null 3 null", "-"),
            plain.replace("null 3 null", ""), plain.replace("null 3 null", "null 3 null "),
            plain.replace("null 3 null", "null  3 null"), plain.replace("null 3 null", "None 3 null"),
            plain.replace("null 3 null", "null 3 false"), plain.replace("null 3 null", "null 3 0"),
            plain.replace("null 3 null", "null 3 @0"), plain.replace("null 3 null", "null 3 null ; "),
            plain.replace("null 3 null", "null 3 null ;"), plain.replace("null 3 null", "null 3 null ; dot live"),
            plain.replace("null 0 null", "null -0 null"), plain.replace("null 0 null", "null 0.0 null"),
            plain.replace("null 0 null", "null 0x0 null"), plain.replace("null 0 null", "null ! null"),
            plain.replace("0 20 20", "0 20 21"), plain.replace("0 20 20", "0 20"), plain.replace("0 20 20", "1 20 20"),
            plain.replace("0 20 20", "0 20 020"), plain.replace("0 20 20", "0 20 +20"), plain.replace("0 20 20", "-0 20 20"),
            plain.replace("0 20 20", "false 20 20"), plain.replace("0 20 20", "0 20 20 20"), plain.replace("0 20 20", ""),
            plain.replace("0 20 20", "0 20 @20"), plain.replace("0 20 20", "0 20 null"), plain.replace("0 20 20", "0 -60 20"),
            plain.replace("50 0 70", "50 0 71"), plain.replace(" / 50 70 0", ""), plain + " / 50 70 0",
            plain.replace("20", "2" * 4001), plain.replace("20", "2" * 19000), plain.replace("null 3 null", "null " + "3" * 5000 + " null"),
            plain.replace("use 0", "use " + "1" * 6000), plain.replace("use 0", "use 0".replace("0", "\u0660")),
            gone.replace("gone", "live"), gone.replace("gone", "gone null"), gone.replace("gone", "lost"), gone.replace("pair gone", "pair"),
            gone.replace("pair gone", "leaf gone"), gone.replace("pair gone", "other gone"), gone.replace("pair gone", "gone pair"),
            gone.replace("@0 1 null", "0 1 null"), gone.replace("@0 1 null", "@1 1 null"), gone.replace("@0 1 null", "@00 1 null"),
            gone.replace("@0 1 null", "@-1 1 null"), gone.replace("@0 1 null", "@ 1 null"), gone.replace("@0 1 null", "@@0 1 null"),
            gone.replace("null 1 @0", "null 1 null ; pair gone"), gone.replace("null 1 @0 ; pair gone", "null 1 null"),
            gone.replace("null 1 @0 ; pair gone", "null 1 null ; leaf gone"), gone.replace(" ; ", ";"), gone.replace(" ; ", " , "),
            first.replace("-3 true", "-4 true"), first.replace("-3 true", "-3 1"), first.replace("-3 true", "true -3"),
            first.replace("-3 true", "-3"), first.replace("live -3", "gone -3"), first.replace("dot live", "dot live 0"),
            first.replace("dot live", "dot dead"), first.replace("@2", "@1"), first.replace("@2", "null"), first.replace("@2", "2"),
            first.replace(" ; dot live", ""), first.replace("dot live", "dot live ; dot live"),
        ):
            self.assertNotIn(bad, lines)
            self.check(program, lines, bad)

    def test_records_in_another_order(self):
        program = read_program(MANY)
        line = ROWS[0][1].replace("leaf live -3 true @2 ; dot live", "dot live ; leaf live -3 true @1").replace("@1 null", "@2 null")
        self.check(program, [ROWS[0][1]], line)

    def test_last_line_without_a_newline(self):
        lines = [LINE] * 3
        text = "\n".join(lines)
        self.refused(DOOR, text, 3)
        self.assertEqual(read_certificate(DOOR, text + "\n"), (EXAMPLE,) * 3)
        self.refused(DOOR, LINE, 1)
        self.refused(DOOR, "x", 1)
        self.refused(DOOR, LINE + "\n" + LINE[:-1], 2)
        # An earlier line that is refused goes before.
        self.refused(DOOR, "x\n" + LINE, 1)
        self.refused(DOOR, LINE + "\nx\n" + LINE, 2)

    def test_empty_lines(self):
        self.refused(DOOR, "\n", 1)
        self.refused(DOOR, "\n\n", 1)
        self.refused(DOOR, LINE + "\n\n", 2)
        self.refused(DOOR, "\n" + LINE + "\n", 1)

    def test_rules_about_the_whole_are_not_looked_at(self):
        for text in (LINE + "\n", (LINE + "\n") * 2):
            self.assertEqual(len(read_certificate(DOOR, text)), text.count("\n"))

    def test_each_character_left_out_or_changed(self):
        """Whatever is changed in a line, it is refused, or it is the line of another row."""
        program = read_program(MANY)
        for row, line in (ROWS[0], ROWS[3]):
            for at in range(len(line)):
                for told in (line[:at] + line[at + 1:], line[:at] + "7" + line[at + 1:], line[:at] + " " + line[at:]):
                    if told == line:
                        continue
                    try:
                        found = read_certificate(program, told + "\n")
                    except BadCertificate as refused:
                        self.assertEqual(refused.line, 1)
                    else:
                        self.assertNotEqual(found, (row,))
                        self.assertEqual(certificate_text(program, found), told + "\n")

    def test_other_characters(self):
        for sign in ("\r", "\t", "\x0b", "\x0c", "\x85", "\u2028", "\x1c"):
            self.refused(DOOR, LINE + sign + "\n", 1)
            self.refused(DOOR, LINE + "\n" + LINE.replace(" ", sign, 1) + "\n", 2)
            self.refused(DOOR, LINE + sign + LINE + "\n", 1)

    def test_rows_of_another_program(self):
        text = certificate_text(DOOR, analyse(DOOR).rows)
        self.refused(read_program(MANY), text, 1)
        rows = Rules(read_program(MANY)).start()
        self.refused(DOOR, certificate_text(read_program(MANY), (rows,)), 1)


if __name__ == "__main__":
    unittest.main()
