"""The ways of a machine: a shortest one for a text and a writing, whether there is any, and all that they write."""

from turnwriter.crowds import useful
from turnwriter.lanes import Lane
from turnwriter.live import Live
from turnwriter.machines import check_machine, turned
from turnwriter.spelling import Spelling

MOST_UNGUIDED = 1000000


def way(machine, text, writing):
    """A way that reads the text and writes the writing, with as few moves as any, or None."""
    check_machine(machine)
    search = Search(machine, text, writing)
    while search.now:
        spot = search.now.pop()
        if search.is_last(spot):
            return search.way_to(spot)
        if search.may_end(spot):
            search.go_on(spot)
        if not search.now:
            search.turn_to_later()
    return None


def reads(machine, text):
    """Whether the machine writes some text of this one."""
    check_machine(machine)
    return useful(machine, text)[0] != 0


def writings(machine, text, most):
    """All texts of at most so many signs that the machine writes of the text, sorted."""
    check_machine(machine)
    spelling = Spelling(machine, text)
    found = []
    beginnings = [("", spelling.first)]
    spare = most
    while beginnings:
        # No more than this many signs can follow: what needs more of them is dropped.
        beginnings = [(had, number) for had, number in beginnings if spelling.can_end(number, spare)]
        found.extend([had for had, number in beginnings if spelling.can_end(number, 0)])
        beginnings = [(had + sign, then) for had, number in beginnings for sign, then in spelling.onward(number)]
        spare -= 1
    return sorted(found)


class Search:
    """The search for a shortest way.

    A spot is a place of the lane along the text, and how many signs are
    written: place * wide + written. For each spot it is known how many moves
    are still needed at least: reading the rest of the text takes so many,
    whatever they write, and writing the rest of the writing so many, whatever
    they read. This tells how long a way over the spot must be. Spots of the
    least length are taken first, so the first whole way is a shortest one.

    Where no move both reads and writes, all ways have equally many moves that
    read or write. Then only the other ones, the silent ones, are counted.
    """

    def __init__(self, machine, text, writing):
        self.moves = machine[3]
        self.writing = writing
        self.wide = len(writing) + 1
        self.lane = Lane(machine, text)
        apart = not any([read and write for _, read, write, _ in self.moves])
        counts = is_silent if apart else is_any
        self.costs = [1 if counts(read, write) else 0 for _, read, write, _ in self.moves]
        self.to_read = self.lane.least_to_end(counts)
        self.to_write = Lane(turned(machine), writing).least_to_end(counts)
        first = self.lane.begin * self.wide
        self.live = None
        self.long = self.least(first)
        self.came = {first: None}
        self.later = {}
        self.now = [] if self.long is None else [first]

    def least(self, spot):
        """How many moves are still needed from a spot at least; None where no way can come to an end."""
        place, written = divmod(spot, self.wide)
        to_read = self.to_read[place]
        to_write = self.to_write[written * self.lane.states + place % self.lane.states]
        if to_read is None or to_write is None:
            return None
        return max(to_read, to_write)

    def is_last(self, spot):
        """Whether a way that has come to this spot is whole."""
        place, written = divmod(spot, self.wide)
        return written == len(self.writing) and place in self.lane.ends

    def may_end(self, spot):
        """Whether a way can come to an end from a spot, as far as that is known.

        It takes long to find out, so it is only done in a search that is long.
        """
        if self.live is None and len(self.came) > MOST_UNGUIDED:
            self.live = Live(self.lane, Lane(copier(self.writing), self.writing))
        place, written = divmod(spot, self.wide)
        return self.live is None or self.live.has(place, written)

    def go_on(self, spot):
        """Take all moves that lead on from a spot."""
        place, written = divmod(spot, self.wide)
        spent = self.long - self.least(spot)
        steps = self.lane.steps(place)
        self.take(steps.get("", []), written, spent)
        if written < len(self.writing):
            self.take(steps.get(self.writing[written], []), written + 1, spent)

    def take(self, steps, written, spent):
        """Keep the spots that steps lead to, and for each the move by which it was come to first."""
        for place, _, index in steps:
            spot = place * self.wide + written
            least = None if spot in self.came else self.least(spot)
            if least is not None:
                long = spent + self.costs[index] + least
                if long == self.long:
                    self.came[spot] = index
                    self.now.append(spot)
                else:
                    self.later.setdefault(long, {}).setdefault(spot, index)

    def turn_to_later(self):
        """Go on with the spots of the next length, but for those that were come to by a shorter way."""
        while self.later and not self.now:
            self.long = min(self.later)
            reached = self.later.pop(self.long)
            for spot, index in reached.items():
                if spot not in self.came:
                    self.came[spot] = index
                    self.now.append(spot)

    def way_to(self, spot):
        """The moves by which a spot was come to, in their order."""
        way_back = []
        while self.came[spot] is not None:
            index = self.came[spot]
            way_back.append(index)
            start, read, write, _ = self.moves[index]
            place, written = divmod(spot, self.wide)
            at = place // self.lane.states
            spot = ((at - len(read)) * self.lane.states + start) * self.wide + written - len(write)
        return way_back[::-1]


def is_any(read, write):
    """True for each move."""
    return True


def is_silent(read, write):
    """Whether a move that reads and writes this reads nothing and writes nothing."""
    return read == "" and write == ""


def copier(text):
    """A machine of one state that reads the signs of this text and writes the same."""
    return (1, 0, [0], [(0, sign, sign, 0) for sign in sorted(set(text))])
