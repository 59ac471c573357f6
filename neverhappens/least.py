"""The least numbers of visits with which runs of plain programs come to rows."""

from heapq import heappop, heappush

from neverhappens.errors import NotPlain
from neverhappens.leading import ends_of, id_of, ways_from
from neverhappens.rules import Rules
from neverhappens.sites import is_plain


class Queue:
    """Candidates (number, item, way), from which the one with the least number is taken first."""

    def __init__(self):
        self.heap = []
        self.offers = []

    def offer(self, number, item, way):
        """Adds a candidate."""
        # The position tells candidates apart before their items would be compared.
        heappush(self.heap, (number, len(self.offers)))
        self.offers.append((item, way))

    def take(self):
        """Removes and returns the candidate with the least number."""
        number, at = heappop(self.heap)
        item, way = self.offers[at]
        return number, item, way


class Frames:
    """The least number of visits from the beginning of a frame to each row.

    `ways` tells for the id of each row how it is come to: ("begin",), ("step", id, index of the
    move), or ("back", id of the row at the call, id of the exit row).
    """

    def __init__(self, rules, rows):
        ends = ends_of(rules, rows)
        self.leads = {id_of(row): ways_from(rules, row, ends) for row in rows}
        self.numbers = {}
        self.ways = {}
        self.queue = Queue()
        # For each id of an exit row the pairs of a row at a call and a row behind it.
        self.pairs = {}
        # The pairs of a row at a call and the row where the called frame begins.
        self.begun = []
        self.queue.offer(0, id_of(rules.start()), ("begin",))
        for found in self.leads:
            self.sort_ways(found, rules.called(found) is not None)
        self.settle_all()

    def sort_ways(self, found, is_call):
        """Keeps the ways from a row at a call: where frames begin, and what lies behind it."""
        for led, end in self.leads[found]:
            if end is not None:
                self.pairs.setdefault(id_of(end), []).append((found, id_of(led)))
            elif is_call:
                self.begun.append((found, id_of(led)))
                self.queue.offer(0, id_of(led), ("begin",))

    def settle_all(self):
        """Gives each row its number, the least ones first."""
        calls = {found: True for found, _ in self.begun}
        while self.queue.heap:
            number, found, way = self.queue.take()
            if found not in self.numbers:
                self.numbers[found] = number
                self.ways[found] = way
                self.offer_next(found, found in calls)

    def offer_next(self, found, is_call):
        """Offers the rows to which a row that has its number now leads."""
        for at, (led, end) in enumerate(self.leads[found]):
            if end is not None:
                self.offer_behind(found, id_of(led), id_of(end))
            elif not is_call:
                self.queue.offer(self.numbers[found] + 1, id_of(led), ("step", found, at))
        for caller, led in self.pairs.get(found, ()):
            self.offer_behind(caller, led, found)

    def offer_behind(self, caller, led, end):
        """Offers the row behind a call, if the row at the call and the exit row have numbers."""
        if caller in self.numbers and end in self.numbers:
            number = self.numbers[caller] + 1 + self.numbers[end]
            self.queue.offer(number, led, ("back", caller, end))


class Least:
    """The least numbers of visits for the rows of a plain program.

    `frames` belongs to the ids of rows and `entries` to pairs (function, entry); `callers` tells
    for such a pair the id of the row at a call from which it is entered first, None for the start.
    """

    def __init__(self, rules, rows):
        self.found = Frames(rules, rows)
        self.frames = self.found.numbers
        self.ways = self.found.ways
        self.entries = {}
        self.callers = {}
        self.enter_all(rules.start()[:2])

    def enter_all(self, first):
        """Gives each pair (function, entry) its number, the least ones first."""
        calls = {}
        for caller, led in self.found.begun:
            calls.setdefault(caller[:2], []).append((caller, led[:2]))
        queue = Queue()
        queue.offer(0, first, None)
        while queue.heap:
            number, entered, caller = queue.take()
            if entered not in self.entries:
                self.entries[entered] = number
                self.callers[entered] = caller
                for found, led in calls.get(entered, ()):
                    queue.offer(number + self.frames[found] + 1, led, found)

    def before(self, found):
        """The least number of visits of a run that comes to the row with this id."""
        return self.entries[found[:2]] + self.frames[found]


def least_of(analysis):
    """The least numbers for the rows of an analysis."""
    if analysis.cut or not is_plain(analysis.program):
        raise NotPlain()
    return Least(Rules(analysis.program), analysis.rows)


def frame_visits(analysis):
    """A dict from the id of each row to the least number of visits from the frame's beginning."""
    least = least_of(analysis)
    return {id_of(row): least.frames[id_of(row)] for row in analysis.rows}


def entry_visits(analysis):
    """A dict from each pair (function, entry) to the least number of visits before it begins."""
    least = least_of(analysis)
    return {row[:2]: least.entries[row[:2]] for row in analysis.rows}
