"""A machine taken twice, both ways of it reading the same text."""

FIRST = 0
SECOND = 1


class Square:
    """The pairs of ways of a machine that read the same text.

    A spot is the state of the first way, the state of the second one, and the
    sign that the first has read and the second has not yet. A step is a tuple
    (side, index of the move, next spot): one of both ways goes on by a move.
    Where rest has no spot, both ways cannot come to an end from there.
    """

    def __init__(self, machine):
        states, begin, ends, self.moves = machine
        self.leaving = [[] for _ in range(states)]
        for index, (start, read, _, goal) in enumerate(self.moves):
            self.leaving[start].append((index, read, goal))
        self.first = (begin, begin, "")
        self.ends = {end: True for end in ends}
        self.rest = self.found_rest()

    def is_last(self, spot):
        """Whether both ways have come to an end."""
        state, other, owed = spot
        return owed == "" and state in self.ends and other in self.ends

    def steps(self, spot):
        """The steps from a spot, also those from which both ways cannot come to an end."""
        state, other, owed = spot
        steps = []
        if owed == "":
            steps.extend([(FIRST, index, (goal, other, read)) for index, read, goal in self.leaving[state]])
        for index, read, goal in self.leaving[other]:
            if read == owed:
                steps.append((SECOND, index, (state, goal, "")))
        return steps

    def found_rest(self):
        """For each spot that leads to an end, the first step of a shortest rest; None at an end."""
        before = self.found_before()
        rest = {spot: None for spot in before if self.is_last(spot)}
        waiting = list(rest)
        at = 0
        while at < len(waiting):
            then = waiting[at]
            for spot, side, index in before[then]:
                if spot not in rest:
                    rest[spot] = (side, index, then)
                    waiting.append(spot)
            at += 1
        return rest

    def found_before(self):
        """For each spot that two ways can come to, the tuples (spot before, side, index) of the steps to it."""
        before = {self.first: []}
        waiting = [self.first]
        at = 0
        while at < len(waiting):
            spot = waiting[at]
            for side, index, then in self.steps(spot):
                if then not in before:
                    before[then] = []
                    waiting.append(then)
                before[then].append((spot, side, index))
            at += 1
        return before

    def moved_from(self, spot):
        """The tuples (side, index) of the steps by which both ways come to an end from a spot."""
        moved = []
        while self.rest[spot] is not None:
            side, index, spot = self.rest[spot]
            moved.append((side, index))
        return moved
