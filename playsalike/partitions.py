"""Lots of states that are parted until only alike ones are together."""


class Partition:
    """Things 0, 1, 2, .. in lots; what is marked of each touched lot can be parted from it."""

    def __init__(self, lots):
        self.members = []
        self.starts = []
        self.ends = []
        self.lot_of = {}
        for number, lot in enumerate(lots):
            self.starts.append(len(self.members))
            self.members.extend(lot)
            self.ends.append(len(self.members))
            for thing in lot:
                self.lot_of[thing] = number
        self.spots = {thing: spot for spot, thing in enumerate(self.members)}
        self.marks = [0 for lot in lots]
        self.touched = []

    def lot(self, number):
        """The list of the things of a lot."""
        return self.members[self.starts[number]:self.ends[number]]

    def mark(self, thing):
        """Marks a thing, once until its lot is parted: marked ones stand first in it."""
        number = self.lot_of[thing]
        if self.marks[number] == 0:
            self.touched.append(number)
        spot = self.spots[thing]
        goal = self.starts[number] + self.marks[number]
        other = self.members[goal]
        self.members[spot] = other
        self.spots[other] = spot
        self.members[goal] = thing
        self.spots[thing] = goal
        self.marks[number] += 1

    def part_marked(self):
        """Parts each touched lot; the smaller part gets the new number."""
        for number in self.touched:
            start, end = self.starts[number], self.ends[number]
            middle = start + self.marks[number]
            self.marks[number] = 0
            if middle == end:
                continue
            if middle - start <= end - middle:
                self._add_lot(start, middle)
                self.starts[number] = middle
            else:
                self._add_lot(middle, end)
                self.ends[number] = middle
        self.touched = []

    def _add_lot(self, start, end):
        number = len(self.starts)
        self.starts.append(start)
        self.ends.append(end)
        self.marks.append(0)
        for thing in self.members[start:end]:
            self.lot_of[thing] = number


def alike(ways, is_end):
    """For each state the number of its lot, alike states together.

    From each state some row must lead to an end. As Valmari told: lots of states and lots of
    ways part one another, each new one, the smaller half, being gone through once.
    """
    steps = [(state, k, goal) for state, row in enumerate(ways) for k, goal in row]
    coming = [[] for row in ways]
    for number, step in enumerate(steps):
        coming[step[2]].append(number)
    states = Partition(_filled([_states_with(is_end, True), _states_with(is_end, False)]))
    lots = Partition(_by_letter(steps))
    seen_states = 1
    seen_lots = 0
    while seen_lots < len(lots.starts):
        for number in lots.lot(seen_lots):
            states.mark(steps[number][0])
        states.part_marked()
        seen_lots += 1
        while seen_states < len(states.starts):
            for state in states.lot(seen_states):
                for number in coming[state]:
                    lots.mark(number)
            lots.part_marked()
            seen_states += 1
    return [states.lot_of[state] for state in range(len(ways))]


def _states_with(is_end, wanted):
    return [state for state, here in enumerate(is_end) if here == wanted]


def _filled(lots):
    return [lot for lot in lots if len(lot) > 0]


def _by_letter(steps):
    """The numbers of the steps, those with the same letter together."""
    found = {}
    for number, step in enumerate(steps):
        found.setdefault(step[1], []).append(number)
    return [found[k] for k in sorted(found)]
