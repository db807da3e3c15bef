"""Whether a machine is twofold; if not, how far ahead states are that stand together."""

from turnwriter.errors import Twofold
from turnwriter.machines import check_machine
from turnwriter.square import FIRST, SECOND, Square

NO_GAP = ("", "")


def twofold(machine):
    """A text and two ways that read it and write unlike texts, or None."""
    check_machine(machine)
    return Gaps(machine).proof


def ahead(machine):
    """All pairs of states that stand together, with what the first and what the second is ahead."""
    check_machine(machine)
    gaps = Gaps(machine)
    if gaps.proof is not None:
        raise Twofold("the machine writes two unlike texts of some text")
    return sorted([(spot[0], spot[1], gap[0], gap[1]) for spot, gap in gaps.found.items() if spot[2] == ""])


class Gaps:
    """How far one of two ways that read the same is ahead of the other one, at each spot of the square.

    A gap is a tuple of what the first has written more, and what the second
    has written more. Where two ways of a machine that is not twofold can still
    come to an end, there is one gap for each spot. So the first spot with two
    gaps, or with none because the ways write apart, gives the proof that the
    machine is twofold, and so does a gap at an end.
    """

    def __init__(self, machine):
        self.square = Square(machine)
        self.found = {}
        self.came = {}
        self.proof = None
        if self.square.first in self.square.rest:
            self.measure()

    def measure(self):
        """Find the gap of each spot, up to the first proof."""
        self.found[self.square.first] = NO_GAP
        self.came[self.square.first] = None
        waiting = [self.square.first]
        at = 0
        while at < len(waiting) and self.proof is None:
            waiting.extend(self.measure_from(waiting[at]))
            at += 1

    def measure_from(self, spot):
        """Find the gaps of the spots that steps lead to, up to the first proof, and tell the new spots."""
        new = []
        for step in self.square.steps(spot):
            side, index, then = step
            if then in self.square.rest:
                gap = gap_after(self.found[spot], side, self.square.moves[index][2])
                if not self.can_be(then, gap):
                    self.prove(spot, step)
                    return []
                if then not in self.found:
                    self.found[then] = gap
                    self.came[then] = (spot, side, index)
                    new.append(then)
        return new

    def can_be(self, spot, gap):
        """Whether a spot can have this gap, as far as it is known, in a machine that is not twofold."""
        if gap is None or self.square.is_last(spot):
            return gap == NO_GAP
        return self.found.get(spot, gap) == gap

    def prove(self, spot, step):
        """Keep the proof, from a step that leads to a gap that cannot be.

        A rest can make up for one gap at most. So if both ways by this step
        write the same, those by which the next spot was come to do not.
        """
        side, index, then = step
        rest = self.square.moved_from(then)
        self.proof = self.proof_by(self.moved_to(spot) + [(side, index)] + rest)
        if self.proof is None:
            self.proof = self.proof_by(self.moved_to(then) + rest)

    def proof_by(self, moved):
        """The text and the ways of these moves, or None where both ways write the same."""
        one = [index for side, index in moved if side == FIRST]
        other = [index for side, index in moved if side == SECOND]
        if self.told(one, 2) == self.told(other, 2):
            return None
        return (self.told(one, 1), one, other)

    def told(self, way, part):
        """What the moves of a way read or write, whichever part of a move is asked for."""
        return "".join([self.square.moves[index][part] for index in way])

    def moved_to(self, spot):
        """The tuples (side, index) of the steps by which a spot was come to."""
        moved = []
        while self.came[spot] is not None:
            spot, side, index = self.came[spot]
            moved.append((side, index))
        return moved[::-1]


def gap_after(gap, side, write):
    """The gap after one side has written so much more, or None where both have written apart."""
    mine, others = gap if side == FIRST else gap[::-1]
    if others == "":
        mine += write
    elif others.startswith(write):
        others = others[len(write):]
    else:
        return None
    return (mine, others) if side == FIRST else (others, mine)
