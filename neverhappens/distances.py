"""How many visits there are at least between places, whatever the values are."""


class Distances:
    """The least numbers of visits to a place, the target, and to the ends of frames.

    `ends` tells for pairs (function, place) how many visits a frame makes at least until it ends,
    `ways` how many are made at least before the target is visited, within the frame and those above
    it. A pair is left out if there is no such number.
    """

    def __init__(self, layouts, target):
        self.layouts = layouts
        self.ends = {}
        self.ways = {}
        for name, layout in layouts.items():
            self.ends[(name, layout.exit)] = 0
        self.spread(self.ends, False)
        self.ways[target] = 0
        self.spread(self.ways, True)

    def spread(self, numbers, within):
        """Finds the numbers of all places, until none becomes less.

        `within` tells whether it counts if a called frame comes there itself: this is so for the
        target, while the end of a called frame is not that of its caller.
        """
        grows = True
        while grows:
            grows = False
            for name, layout in self.layouts.items():
                for place in reversed(range(layout.exit)):
                    number = self.number_from(numbers, within, name, place)
                    old = numbers.get((name, place))
                    if number is not None and (old is None or number < old):
                        numbers[(name, place)] = number
                        grows = True

    def number_from(self, numbers, within, name, place):
        """The number of a place, as far as those of the places behind it are known."""
        statement, after, other = self.layouts[name].graph[place]
        found = [numbers.get((name, after)), numbers.get((name, other))]
        if statement[0] == "call":
            begin = (statement[2], 0)
            found = [added(self.ends.get(begin), found[0])]
            if within:
                found.append(numbers.get(begin))
        return added(1, least(found))

    def of_frames(self, frames):
        """How many visits there are at least before the target is visited, None if it never is."""
        found = []
        passed = 0
        for at, (name, place, _) in enumerate(reversed(frames)):
            # A frame below the top frame goes on behind its call.
            here = (name, place if at == 0 else self.layouts[name].graph[place][1])
            found.append(added(passed, self.ways.get(here)))
            passed = added(passed, self.ends.get(here))
        return least(found)


def added(left, right):
    """The sum of two numbers, None if one is None."""
    return None if left is None or right is None else left + right


def least(numbers):
    """The least of the numbers that are not None, None if there is none."""
    return min([number for number in numbers if number is not None], default=None)
