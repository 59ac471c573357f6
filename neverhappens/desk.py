"""A desk: a program, its analysis, and what was done with them."""

from neverhappens.analysis import analyse
from neverhappens.certificates import certificate_text
from neverhappens.changes import revise
from neverhappens.errors import BadJournal, NeverError, NothingLoaded, NothingToUndo
from neverhappens.printing import program_text
from neverhappens.reading import read_function, read_program
from neverhappens.sites import sites
from neverhappens.verdicts import report, verdict


class Page:
    """What lies on a desk: an analysis, and what is told of its program; or nothing."""

    def __init__(self, analysis):
        self.analysis = analysis
        self.words = ""
        self.places = ()
        self.untouched = ()
        if analysis is not None:
            self.words = program_text(analysis.program)
            self.places = tuple(sites(analysis.program))
            self.untouched = analysis.kept


class Desk:
    """Keeps a program, its analysis and what was done."""

    def __init__(self, *, limit=200, rounds=2):
        self._limit = limit
        self._rounds = rounds
        self._page = Page(None)
        # The pages to which undo goes back, the latest last.
        self._pages = []
        self._journal = []

    @property
    def text(self):
        """The text of the current program."""
        return self._page.words

    @property
    def kept(self):
        """The ids of the rows that the latest change has kept."""
        return self._page.untouched

    def __len__(self):
        return len(self._pages)

    def __iter__(self):
        return iter(self._page.places)

    def __contains__(self, site):
        return site in self._page.places

    def current(self):
        """The current analysis; raises NothingLoaded if there is none."""
        if self._page.analysis is None:
            raise NothingLoaded()
        return self._page.analysis

    def turn_to(self, analysis, deed):
        """Puts an analysis on the desk, and notes the deed that has led to it."""
        page = Page(analysis)
        self._pages.append(self._page)
        self._page = page
        self._journal.append(deed)

    def load(self, text):
        """Reads a program and analyses it."""
        program = read_program(text)
        analysis = analyse(program, limit=self._limit, rounds=self._rounds)
        self.turn_to(analysis, ("load", text))

    def change(self, text):
        """Reads a function and puts it in the place of the one with its name."""
        analysis = revise(self.current(), read_function(text))
        self.turn_to(analysis, ("change", text))

    def undo(self):
        """Takes back the latest load or change that is in force."""
        if not self._pages:
            raise NothingToUndo()
        self._page = self._pages.pop()
        self._journal.append(("undo",))

    def ask(self, function, place, fault):
        """The verdict about a fault."""
        return verdict(self.current(), function, place, fault)

    def answers(self):
        """The verdicts about all faults."""
        return report(self.current())

    def certificate(self):
        """The text of the rows of the analysis."""
        analysis = self.current()
        return certificate_text(analysis.program, analysis.rows)

    def trial(self, text):
        """The verdicts that there would be after a change."""
        return report(revise(self.current(), read_function(text)))

    def journal(self):
        """The list of what was done."""
        return list(self._journal)


def is_deed(entry):
    """True if an entry of a journal has the form of a deed."""
    if entry == ("undo",):
        return True
    if not isinstance(entry, tuple) or len(entry) != 2:
        return False
    return entry[0] in ("load", "change") and isinstance(entry[1], str)


def do_again(desk, entry):
    """Does what an entry of a journal tells."""
    if entry[0] == "load":
        desk.load(entry[1])
    elif entry[0] == "change":
        desk.change(entry[1])
    else:
        desk.undo()


def replay(journal, *, limit=200, rounds=2):
    """A new desk on which the deeds of a journal have been done."""
    desk = Desk(limit=limit, rounds=rounds)
    for position, entry in enumerate(journal):
        if not is_deed(entry):
            raise BadJournal(position)
        try:
            do_again(desk, entry)
        except NeverError:
            raise BadJournal(position)
    return desk
