"""Tables: rows with different ids that describe what runs may come to."""

from neverhappens.landmarks import is_head, landmarks, round_box
from neverhappens.leading import id_of, is_end, rows_led_to
from neverhappens.zones import is_inside, join_boxes


def sort_rows(program, rows):
    """The tuple of the rows by function, place, entry and key."""
    positions = {function[0]: at for at, function in enumerate(program[3])}
    return tuple(sorted(
        list(rows), key=lambda row: (positions[row[0]], row[2], repr(row[1]), repr(row[3]))
    ))


def lower(rules, table):
    """The table of what a table leads to, without any rounding."""
    boxes = {}
    for row in rows_led_to(rules, table):
        found = id_of(row)
        boxes[found] = join_boxes(boxes.get(found), row[4])
    return sort_rows(rules.program, tuple([(*found, box) for found, box in boxes.items()]))


class Work:
    """The first table while it grows, and the rows of it that wait to be taken."""

    def __init__(self, rules):
        self.rules = rules
        self.marks = {name: landmarks(layout) for name, layout in rules.layouts.items()}
        self.boxes = {}
        self.waiting = []
        self.waits = {}
        # For each pair (function, entry) its exit rows' ids, and its callers' ids with members.
        self.ends = {}
        self.callers = {}
        self.include(rules.start())

    def include(self, row):
        """Joins the box of a row with the box of its id, and lets the id wait if this grows."""
        found = id_of(row)
        old = self.boxes.get(found)
        if old is not None and is_inside(row[4], old):
            return
        self.boxes[found] = self.rounded(row, join_boxes(old, row[4]))
        if is_end(self.rules, row):
            self.ends.setdefault(row[:2], {})[found] = True
        if found not in self.waits:
            self.waits[found] = True
            self.waiting.append(found)

    def rounded(self, row, box):
        """The box, rounded if the row is at a head."""
        layout = self.rules.layouts[row[0]]
        if not is_head(layout, row[2]):
            return box
        ranges = layout.exit_ranges if row[2] == layout.exit else layout.ranges
        return round_box(box, ranges, self.marks[row[0]])

    def take(self, index):
        """Takes the waiting row with this index and includes what it leads to."""
        found = self.waiting.pop(index)
        del self.waits[found]
        row = (*found, self.boxes[found])
        callee = self.rules.called(row)
        if is_end(self.rules, row):
            for caller, member in list(self.callers.get(row[:2], {}).items()):
                self.include_behind(caller, member, found)
        elif callee is None:
            for led in self.rules.moves(row):
                self.include(led)
        else:
            self.take_call(row, callee.name)

    def take_call(self, row, name):
        """Includes what a row at a call leads to, with all ends that are known so far."""
        found = id_of(row)
        for member in self.rules.members(row)[1]:
            self.include((name, *member[:4]))
            entered = (name, member[0])
            self.callers.setdefault(entered, {})[found] = member
            for end in list(self.ends.get(entered, {})):
                self.include_behind(found, member, end)

    def include_behind(self, caller, member, end):
        """Includes the row behind a call, told by the ids of its row and of an exit row."""
        row = (*caller, self.boxes[caller])
        behind = self.rules.behind(row, member, (*end, self.boxes[end]))
        if behind is not None:
            self.include(behind)


def first_table(rules, limit, picks):
    """The first table, None if it has more rows than the limit."""
    work = Work(rules)
    turn = 0
    while work.waiting:
        pick = picks[turn % len(picks)] if picks else 0
        work.take(pick % len(work.waiting))
        # A row that was found once stays in the table.
        if len(work.boxes) > limit:
            return None
        turn += 1
    return sort_rows(
        rules.program, tuple([(*found, box) for found, box in work.boxes.items()])
    )
