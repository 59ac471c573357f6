"""Points 87 and 88: the desk, and journals that are done again."""

import unittest

from neverhappens.analysis import analyse
from neverhappens.certificates import certificate_text, read_certificate
from neverhappens.changes import replace_function, revise
from neverhappens.checker import accepts
from neverhappens.desk import Desk, replay
from neverhappens.errors import (
    BadJournal, BadKind, BadText, NeverError, NoSite, NothingLoaded, NothingToUndo, Twice, Unknown, WrongChange, WrongKind,
)
from neverhappens.printing import function_text, program_text
from neverhappens.reading import read_function, read_program
from neverhappens.sites import sites
from neverhappens.verdicts import report, verdict
from tests.samples import DOOR, DOOR_TEXT
from tests.test_changes import CALLS
from tests.test_tables import LOOP

MAIN = "def main()\n  var x: 0..40\n  x = twice(20)\n  assert (x < 41)\nend\n"
NOTE = "def note(f: flag)\n  assert f\nend\n"
WRONG = "def note(f: flag)\n  assert g\nend\n"
OTHER = "def note(f: flag, g: flag)\nend\n"


class DeskCase(unittest.TestCase):
    def state(self, desk):
        """All that a desk tells."""
        told = [desk.text, desk.kept, desk.journal(), len(desk), list(desk)]
        if desk.text:
            told += [desk.answers(), desk.certificate(), [desk.ask(*site) for site in desk]]
            told.append(desk.trial(function_text(read_program(desk.text)[3][0])))
        return told

    def raises(self, error, desk, deed, *arguments):
        """The call raises the error and leaves the desk as it was."""
        before = self.state(desk)
        with self.assertRaises(error) as caught:
            deed(*arguments)
        self.assertIs(type(caught.exception), error)
        self.assertEqual(self.state(desk), before)
        return caught.exception

    def check(self, desk, analysis):
        """The desk has this analysis."""
        program = analysis.program
        self.assertEqual(desk.text, program_text(program))
        self.assertEqual(desk.kept, analysis.kept)
        self.assertEqual(desk.answers(), report(analysis))
        self.assertEqual(desk.certificate(), certificate_text(program, analysis.rows))
        self.assertEqual(list(desk), sites(program))
        for site in sites(program):
            self.assertEqual(desk.ask(*site), verdict(analysis, *site))
            self.assertIs(site in desk, True)


class TestEmpty(DeskCase):
    def test_without_a_program(self):
        desk = Desk()
        self.assertEqual((desk.text, desk.kept, desk.journal(), len(desk), list(desk)), ("", (), [], 0, []))
        self.assertIs(("main", 0, "range") in desk, False)
        for deed, arguments in (
            (desk.change, (NOTE,)), (desk.change, ("",)), (desk.change, ("def\n",)), (desk.ask, ("main", 0, "range")),
            (desk.answers, ()), (desk.certificate, ()), (desk.trial, (NOTE,)), (desk.trial, ("def\n",)),
        ):
            self.raises(NothingLoaded, desk, deed, *arguments)
        self.raises(NothingToUndo, desk, desk.undo)

    def test_properties_cannot_be_set(self):
        desk = Desk()
        for name in ("text", "kept"):
            with self.assertRaises(AttributeError):
                setattr(desk, name, ())
            self.assertIsInstance(getattr(Desk, name), property)

    def test_desks_are_apart(self):
        one, other = Desk(), Desk()
        one.load(DOOR_TEXT)
        self.assertEqual((other.text, len(other), other.journal()), ("", 0, []))


class TestDeeds(DeskCase):
    def test_load(self):
        desk = Desk()
        self.assertIsNone(desk.load(DOOR_TEXT))
        self.check(desk, analyse(DOOR))
        self.assertEqual((len(desk), desk.journal()), (1, [("load", DOOR_TEXT)]))
        desk.load(LOOP)
        self.check(desk, analyse(read_program(LOOP)))
        self.assertEqual(len(desk), 2)

    def test_limit_and_rounds(self):
        for limit, rounds in ((200, 2), (5, 1), (600, 0), (10, 4)):
            desk = Desk(limit=limit, rounds=rounds)
            desk.load(CALLS)
            analysis = analyse(read_program(CALLS), limit=limit, rounds=rounds)
            self.check(desk, analysis)
            desk.change(NOTE)
            self.check(desk, revise(analysis, read_function(NOTE)))
            self.assertEqual(desk.trial(MAIN), report(revise(revise(analysis, read_function(NOTE)), read_function(MAIN))))

    def test_numbers_without_arguments(self):
        # 200 rows are not too many, and 201 are: behind the input there are two for each statement.
        text = "".join(f"  k = {at % 8}\n" for at in range(99))
        for first, many, wanted in (("", 200, "never"), ("  k = 3\n", 201, "open")):
            program = f"def main()\n  var k: 0..7\n  var f: flag\n{first}  f = input\n{text}end\n"
            self.assertEqual(len(analyse(read_program(program), limit=600)), many)
            desk = Desk()
            desk.load(program)
            for told in (desk, replay([("load", program)])):
                self.assertEqual(told.answers()[0][1], (wanted,))
        # The first round would not be enough, see test_analysis.
        text = "def main()\n  var x: 0..1000\n  while (x < 500)\n    x = (x + 3)\n  end\n  assert (x != ((250 * 2) + 5))\nend\n"
        told = Desk()
        told.load(text)
        self.assertEqual(told.ask("main", 2, "assert"), ("never",))
        other = Desk(rounds=1)
        other.load(text)
        self.assertEqual(other.ask("main", 2, "assert"), ("open",))

    def test_errors_of_load(self):
        for text in (None, CALLS):
            desk = Desk()
            if text is not None:
                desk.load(text)
            main = "def main()\nend\n"
            self.assertEqual(self.raises(BadText, desk, desk.load, main + "x\n").line, 3)
            self.assertEqual(self.raises(BadText, desk, desk.load, main[:-1]).line, 2)
            self.assertEqual(self.raises(Unknown, desk, desk.load, "").name, "main")
            self.assertEqual(self.raises(Twice, desk, desk.load, main + main).name, "main")
            self.assertEqual(self.raises(BadKind, desk, desk.load, "global a: 2..1\n" + main).name, "a")
            self.raises(WrongKind, desk, desk.load, "def main(): flag\nend\n")

    def test_change(self):
        desk = Desk()
        desk.load(CALLS)
        analysis = analyse(read_program(CALLS))
        for text in (NOTE, MAIN, NOTE):
            self.assertIsNone(desk.change(text))
            analysis = revise(analysis, read_function(text))
            self.check(desk, analysis)
        self.assertEqual(len(desk), 4)
        self.assertEqual(desk.journal(), [("load", CALLS), ("change", NOTE), ("change", MAIN), ("change", NOTE)])

    def test_kept(self):
        desk = Desk()
        desk.load(CALLS)
        self.assertEqual(desk.kept, ())
        desk.change(NOTE)
        kept = desk.kept
        self.assertGreater(len(kept), 3)
        desk.change(MAIN)
        self.assertNotEqual(desk.kept, kept)
        desk.undo()
        self.assertEqual(desk.kept, kept)
        desk.load(CALLS)
        self.assertEqual(desk.kept, ())

    def test_errors_of_change_and_trial(self):
        desk = Desk()
        desk.load(CALLS)
        desk.change(NOTE)
        for deed in (desk.change, desk.trial):
            self.assertEqual(self.raises(BadText, desk, deed, "").line, 1)
            self.assertEqual(self.raises(BadText, desk, deed, NOTE + NOTE).line, 4)
            self.assertEqual(self.raises(BadText, desk, deed, NOTE[:-1]).line, 3)
            self.assertEqual(self.raises(WrongChange, desk, deed, OTHER).name, "note")
            self.assertEqual(self.raises(WrongChange, desk, deed, "def other()\nend\n").name, "other")
            self.assertEqual(self.raises(Unknown, desk, deed, WRONG).name, "g")
            self.raises(WrongKind, desk, deed, "def note(f: flag)\n  break\nend\n")
            # The form of the text goes before all that is wrong in the function.
            self.assertEqual(self.raises(BadText, desk, deed, WRONG + "x\n").line, 4)

    def test_trial(self):
        desk = Desk()
        desk.load(CALLS)
        before = self.state(desk)
        answers = desk.trial(NOTE)
        self.assertEqual(self.state(desk), before)
        self.assertEqual(answers, report(analyse(replace_function(read_program(CALLS), read_function(NOTE)))))
        self.assertNotEqual(answers, desk.answers())
        desk.change(NOTE)
        self.assertEqual(desk.answers(), answers)

    def test_errors_of_ask(self):
        desk = Desk()
        desk.load(CALLS)
        for site in (("none", 0, "range"), ("main", 1, "range"), ("main", 99, "range"), ("main", 0, "null")):
            error = self.raises(NoSite, desk, desk.ask, *site)
            self.assertEqual((error.function, error.place, error.fault), site)

    def test_certificate(self):
        desk = Desk()
        desk.load(CALLS)
        program = read_program(desk.text)
        rows = read_certificate(program, desk.certificate())
        self.assertIs(accepts(program, rows), True)

    def test_cut(self):
        desk = Desk(limit=1)
        desk.load(CALLS)
        self.assertEqual({answer for _, answer in desk.answers()}, {("open",)})
        self.assertEqual((desk.certificate(), desk.kept), ("", ()))
        self.assertEqual(list(desk), sites(read_program(CALLS)))


class TestUndo(DeskCase):
    def test_one_after_the_other(self):
        desk = Desk()
        states = [self.state(desk)]
        deeds = [(desk.load, CALLS), (desk.change, NOTE), (desk.load, LOOP), (desk.load, CALLS), (desk.change, MAIN), (desk.change, NOTE)]
        for deed, text in deeds:
            deed(text)
            states.append(self.state(desk))
        journal = desk.journal()
        for state in reversed(states[:-1]):
            self.assertIsNone(desk.undo())
            journal.append(("undo",))
            self.assertEqual(desk.journal(), journal)
            found = self.state(desk)
            # All is as it was but what has been done.
            self.assertEqual(found[:2] + found[3:], state[:2] + state[3:])
        self.raises(NothingToUndo, desk, desk.undo)
        self.assertEqual(len(desk), 0)
        self.raises(NothingLoaded, desk, desk.answers)

    def test_deeds_after_undo(self):
        desk = Desk()
        desk.load(CALLS)
        desk.change(NOTE)
        desk.undo()
        desk.change(MAIN)
        self.check(desk, revise(analyse(read_program(CALLS)), read_function(MAIN)))
        self.assertEqual(len(desk), 2)
        desk.undo()
        desk.undo()
        self.assertEqual(desk.text, "")
        desk.load(LOOP)
        desk.undo()
        self.raises(NothingToUndo, desk, desk.undo)
        self.assertEqual([entry[0] for entry in desk.journal()], "load change undo change undo undo load undo".split())

    def test_errors_do_not_count(self):
        desk = Desk()
        desk.load(CALLS)
        for text in (WRONG, OTHER, ""):
            self.raises(NeverError, desk, lambda text=text: self.fail_with(desk, text))
        desk.trial(NOTE)
        desk.undo()
        self.assertEqual((desk.text, len(desk)), ("", 0))

    def fail_with(self, desk, text):
        """Raises a plain NeverError if the change raises one."""
        try:
            desk.change(text)
        except NeverError:
            raise NeverError() from None


class TestCollection(DeskCase):
    def test_len_iteration_and_in(self):
        desk = Desk()
        desk.load(CALLS)
        found = sites(read_program(CALLS))
        self.assertEqual([site for site in desk], found)
        self.assertEqual(tuple(iter(desk)), tuple(found))
        for site in found:
            self.assertIn(site, desk)
        for site in (("main", 99, "range"), ("none", 0, "range"), ("main", 0, "range"), ("note", 0, "assert")):
            self.assertEqual(site in desk, site in found)
            self.assertIsInstance(site in desk, bool)
        desk.change(NOTE)
        self.assertIn(("note", 0, "assert"), desk)
        self.assertEqual(len(desk), 2)
        desk.undo()
        self.assertNotIn(("note", 0, "assert"), desk)
        desk.undo()
        self.assertEqual((len(desk), list(desk)), (0, []))

    def test_journals_that_are_changed_afterwards(self):
        desk = Desk()
        desk.load(CALLS)
        desk.change(NOTE)
        journal = desk.journal()
        self.assertIs(type(journal), list)
        journal.clear()
        journal.append(("undo",))
        self.assertEqual(desk.journal(), [("load", CALLS), ("change", NOTE)])
        desk.answers().clear()
        self.assertEqual(desk.answers(), report(analyse(read_program(desk.text))))


class TestReplay(DeskCase):
    JOURNAL = [
        ("load", DOOR_TEXT), ("load", CALLS), ("change", NOTE), ("undo",), ("change", MAIN), ("change", NOTE), ("undo",),
        ("load", LOOP), ("undo",),
    ]

    def test_the_same_answers(self):
        for limit, rounds in ((200, 2), (600, 0), (3, 1)):
            desk = Desk(limit=limit, rounds=rounds)
            for entry in self.JOURNAL:
                {"load": desk.load, "change": desk.change, "undo": desk.undo}[entry[0]](*entry[1:])
                journal = desk.journal()
                other = replay(journal, limit=limit, rounds=rounds)
                self.assertIsInstance(other, Desk)
                self.assertIsNot(other, desk)
                self.assertEqual(self.state(other), self.state(desk))
            while len(desk):
                desk.undo()
                other.undo()
                self.assertEqual(self.state(other), self.state(desk))

    def test_other_limits(self):
        desk = replay(self.JOURNAL, limit=3)
        self.assertEqual({answer for _, answer in desk.answers()}, {("open",)})
        self.check(replay(self.JOURNAL[:2], limit=600, rounds=4), analyse(read_program(CALLS), limit=600, rounds=4))
        self.check(replay(self.JOURNAL[:2]), analyse(read_program(CALLS)))

    def test_no_entries(self):
        self.assertEqual(self.state(replay([])), self.state(Desk()))

    def test_entries_of_no_form(self):
        for entry in (
            (), ("load",), ("change",), ("undo", ""), ("undo", None), ("load", CALLS, ""), ("change", NOTE, 0), ("Load", CALLS),
            ("begin",), ("begin", CALLS), ["load", CALLS], ["undo"], ["change", NOTE], "load", "undo", None, True, 0, 7,
            ("load", None), ("load", 3), ("load", True), ("load", (CALLS,)), ("load", [CALLS]), ("change", None), ("change", (NOTE,)),
            (("load",), CALLS), (["load"], CALLS), (None, CALLS), (CALLS, "load"), {"load": CALLS},
        ):
            for at in range(3):
                self.refused([*self.JOURNAL[:at], entry, *self.JOURNAL[at:]], at)
                self.refused([*self.JOURNAL[:at], entry, entry], at)

    def refused(self, journal, position):
        before = list(journal)
        with self.assertRaises(BadJournal, msg=journal) as caught:
            replay(journal)
        self.assertEqual(caught.exception.position, position)
        self.assertEqual(journal, before)

    def test_deeds_that_raise_an_error(self):
        for entry in (("load", ""), ("load", "x\n"), ("load", CALLS[:-1]), ("change", NOTE), ("change", ""), ("undo",)):
            self.refused([entry], 0)
            self.refused([entry, entry], 0)
        loaded = ("load", CALLS)
        for entry in (("change", WRONG), ("change", OTHER), ("change", ""), ("load", CALLS + CALLS)):
            self.refused([loaded, entry], 1)
            self.refused([loaded, ("change", NOTE), entry, ("undo",)], 2)
        self.refused([loaded, ("undo",), ("undo",)], 2)
        self.refused([loaded, ("undo",), ("change", NOTE)], 2)
        # The first one counts, whatever is wrong with it.
        self.refused([loaded, ("change", WRONG), ("begin",)], 1)
        self.refused([loaded, ("begin",), ("change", WRONG)], 1)

    def test_a_journal_that_is_changed_afterwards(self):
        journal = list(self.JOURNAL)
        desk = replay(journal)
        journal.clear()
        self.assertEqual(desk.journal(), self.JOURNAL)


if __name__ == "__main__":
    unittest.main()
