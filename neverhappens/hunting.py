"""Hunts for runs that have a fault."""

from heapq import heappop, heappush

from neverhappens.distances import Distances
from neverhappens.forms import occurs
from neverhappens.groups import start_group
from neverhappens.landmarks import expressions_of
from neverhappens.layouts import Layout
from neverhappens.parting import COMPARISONS, TooManyCases
from neverhappens.plain import run
from neverhappens.statements import list_statements
from neverhappens.verdicts import check_site
from neverhappens.visiting import visit_group

# How many boxes are looked at to find inputs for one group, and for all groups together.
MOST_STEPS = 400
ALL_STEPS = 4000


class Hunt:
    """The search for a run that has the fault of a site with one of its first visits."""

    def __init__(self, program, site, visits, tries):
        self.program = program
        self.site = site
        self.visits = visits
        self.tries = tries
        self.layouts = {function[0]: Layout(program, function[0]) for function in program[3]}
        self.distances = Distances(self.layouts, site[:2])
        # Triples of numbers by which groups are taken, the last one that of the group.
        self.waiting = []
        self.groups = {}
        self.added = 0
        # For the outline of each group the least number of visits with which it was found.
        self.seen = {}
        self.steps = ALL_STEPS
        # True if a group may have the fault, but no run of it was found.
        self.unsure = False

    def add(self, group, visits):
        """Lets a group wait, if its runs may still come to the fault."""
        distance = self.distances.of_frames(group.frames)
        if distance is None or visits + distance + 1 > self.visits:
            return
        outline = group.outline()
        if outline is not None:
            if outline in self.seen and self.seen[outline] <= visits:
                return
            self.seen[outline] = visits
        # Among those that are as near, the ones that have come further go first.
        heappush(self.waiting, (visits + distance, -visits, self.added))
        self.groups[self.added] = group
        self.added += 1

    def take(self):
        """Visits the next group. Returns the answer if a run of it has the fault, otherwise None."""
        _, negative, at = heappop(self.waiting)
        group = self.groups.pop(at)
        visits = 1 - negative
        faults, groups = visit_group(self.layouts, group)
        if group.frames[-1][:2] == self.site[:2]:
            for word, regions in faults:
                found = self.inputs_in(regions, visits) if word == self.site[2] else None
                if found is not None:
                    return ("run", found, visits)
        for other in groups:
            self.add(other, visits)
        return None

    def inputs_in(self, regions, visits):
        """The inputs of a run that has the fault with this visit, None if none was found."""
        for limits in regions:
            inputs, steps = limits.some_inputs(min(MOST_STEPS, 1 + self.steps))
            self.steps = max(0, self.steps - steps)
            if inputs is not None:
                if run(self.program, inputs, visits)[:2] == (("fault", *self.site), visits):
                    return inputs
        self.unsure = True
        return None

    def answer(self):
        """The answer of the search."""
        try:
            return self.follow()
        except TooManyCases:
            return ("cut",)

    def follow(self):
        """Visits one group after the other until the answer is known."""
        self.add(start_group(self.program, self.layouts), 0)
        while self.waiting:
            # The first group, before all visits, does not count.
            if self.added > self.tries + 1:
                return ("cut",)
            found = self.take()
            if found is not None:
                return found
        return ("cut",) if self.unsure else ("none",)


def hunt(program, function, place, fault, *, visits=20, tries=500):
    """Searches for a run that has a fault with one of its first visits."""
    check_site(program, function, place, fault)
    return Hunt(program, (function, place, fault), visits, tries).answer()


def numbers_asked(expression):
    """The list of the number expressions whose form counts: the expression, or what it compares."""
    word = expression[0]
    if word in ("num", "+", "-", "*"):
        return [expression]
    if word in COMPARISONS:
        return list(expression[1:])
    # A name alone has a simple form, whatever its kind is.
    if word not in ("not", "and", "or"):
        return []
    return [found for part in expression[1:] for found in numbers_asked(part)]


def is_simple_number(expression, large):
    """True if a number expression has one of the forms that simple programs have."""
    word = expression[0]
    if word == "name" or not occurs(large, expression):
        return True
    if word == "*":
        return False
    _, left, right = expression
    # The large variable stands alone on one side, and the other side has none.
    if left[0] == "name" and not occurs(large, right):
        return True
    return word == "+" and right[0] == "name" and not occurs(large, left)


def is_simple(program):
    """True if the program has no arrays and compares and gives large numbers in simple forms."""
    for function in program[3]:
        layout = Layout(program, function[0])
        for statement, _ in list_statements(function[4]):
            for expression in expressions_of(statement):
                numbers = numbers_asked(expression)
                if not all([is_simple_number(number, layout.large) for number in numbers]):
                    return False
    return program[1] == ()
