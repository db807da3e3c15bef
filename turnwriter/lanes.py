"""A machine laid along a text that it reads."""

from turnwriter.crowds import useful


class Lane:
    """The places of the ways of a machine that read a text whole.

    A place tells how many signs are read and the state: at * states + state.
    Places that no such way passes are left out, so no walk along the lane
    comes to a dead end.
    """

    def __init__(self, machine, text):
        states, begin, ends, moves = machine
        self.states = states
        self.text = text
        self.useful = useful(machine, text)
        self.begin = begin
        self.ends = {len(text) * states + end: True for end in ends}
        self.leaving = [[] for _ in range(states)]
        self.entering = [[] for _ in range(states)]
        for index, (start, read, write, goal) in enumerate(moves):
            self.leaving[start].append((index, read, write, goal))
            self.entering[goal].append((start, read, write))
        self.found = {}

    def has(self, place):
        """Whether a way that reads the text whole passes this place."""
        at, state = divmod(place, self.states)
        return self.useful[at] >> state & 1 == 1

    def steps(self, place):
        """For each text written by a next move: the tuples (next place, signs read, index of the move)."""
        if place not in self.found:
            self.found[place] = self.steps_found(place)
        return self.found[place]

    def steps_found(self, place):
        at, state = divmod(place, self.states)
        sign = self.text[at:at + 1]
        steps = {}
        for index, read, write, goal in self.leaving[state]:
            then = (at + len(read)) * self.states + goal
            if read in ("", sign) and self.has(then):
                steps.setdefault(write, []).append((then, len(read), index))
        return steps

    def steps_back(self, place):
        """The tuples (place before, read, write) of the moves that lead to a place."""
        at, state = divmod(place, self.states)
        sign = self.text[at - 1] if at > 0 else ""
        steps = []
        for start, read, write in self.entering[state]:
            before = (at - len(read)) * self.states + start
            if read in ("", sign) and self.has(before):
                steps.append((before, read, write))
        return steps

    def least_to_end(self, counts):
        """For each place, how few moves that count lead from it to an end; None where no way passes.

        Whether a move counts is told by counts, of what it reads and writes.
        """
        least = [None] * (len(self.useful) * self.states)
        now = [place for place in self.ends if self.has(place)]
        many = 0
        while now:
            later = []
            while now:
                place = now.pop()
                if least[place] is None:
                    least[place] = many
                    for before, read, write in self.steps_back(place):
                        if counts(read, write):
                            later.append(before)
                        else:
                            now.append(before)
            now = later
            many += 1
        return least
