"""What a machine writes of a text, spelled sign by sign."""

from turnwriter.crowds import Leads
from turnwriter.lanes import Lane


class Spelling:
    """All that a machine may be at once, after it has written some signs of a text.

    This is a standing: a tuple of pairs (signs read, crowd of states), with
    rising numbers of signs read, of which no way that reads the text whole is
    left out. Standings are told by numbers.
    """

    def __init__(self, machine, text):
        _, begin, _, moves = machine
        self.text = text
        self.signs = sorted({write for _, _, write, _ in moves if write})
        self.leads = Leads([(start, (read, write), goal) for start, read, write, goal in moves])
        lane = Lane(machine, text)
        self.useful = lane.useful
        self.lacking = found_lacking(lane)
        self.standings = []
        self.numbers = {}
        self.found = {}
        self.first = self.number_of(self.settled({0: 1 << begin}))

    def number_of(self, standing):
        """The number of a standing, a new one where it comes up first."""
        if standing not in self.numbers:
            self.numbers[standing] = len(self.standings)
            self.standings.append((standing, self.least_lacking(standing)))
        return self.numbers[standing]

    def least_lacking(self, standing):
        """How many signs must still be written at least; None where the text cannot be read whole."""
        return min([self.least_at(at, crowd) for at, crowd in standing], default=None)

    def least_at(self, at, crowd):
        """How many signs the one of a crowd must still write at least that needs the fewest."""
        return min([many for many, some in self.lacking[at].items() if crowd & some])

    def can_end(self, number, spare):
        """Whether the machine can come to an end if it writes at most so many more signs."""
        least = self.standings[number][1]
        return least is not None and least <= spare

    def onward(self, number):
        """The pairs (sign, number of the standing) of the signs that can be written next."""
        if number not in self.found:
            self.found[number] = self.found_onward(self.standings[number][0])
        return self.found[number]

    def found_onward(self, standing):
        onward = []
        for sign in self.signs:
            after = self.settled(self.written(standing, sign))
            if after:
                onward.append((sign, self.number_of(after)))
        return onward

    def written(self, standing, sign):
        """For each number of signs read, the crowd that the one move leads to which writes the sign."""
        gained = {}
        for at, crowd in standing:
            gained[at] = gained.get(at, 0) | self.leads.led(crowd, ("", sign))
            if at < len(self.text):
                gained[at + 1] = self.leads.led(crowd, (self.text[at], sign))
        return gained

    def settled(self, gained):
        """The standing of the crowds gained, and of all that moves which write nothing lead to from there."""
        standing = []
        passed_on = 0
        for at in range(len(self.text) + 1):
            crowd = (gained.get(at, 0) | passed_on) & self.useful[at]
            passed_on = 0
            if crowd:
                crowd = self.leads.spread(crowd, ("", "")) & self.useful[at]
                standing.append((at, crowd))
                if at < len(self.text):
                    passed_on = self.leads.led(crowd, (self.text[at], ""))
        return tuple(standing)


def is_writing(read, write):
    """Whether a move that reads and writes this writes a sign."""
    return write != ""


def found_lacking(lane):
    """For each number of signs read, by how many signs must still be written at least: the crowd of those states."""
    found = [{} for _ in lane.useful]
    for place, many in enumerate(lane.least_to_end(is_writing)):
        if many is not None:
            at, state = divmod(place, lane.states)
            found[at][many] = found[at].get(many, 0) | 1 << state
    return found
