"""Two machines one behind the other: joined into one, and a text between them."""

from collections import deque

from turnwriter.errors import TooGreat
from turnwriter.lanes import Lane
from turnwriter.live import Live
from turnwriter.machines import check_machine, turned

MOST_JOINED_STATES = 100
MOST_JOINED_SIZE = 1000
MOST_UNGUIDED = 500000


def joined(one, other):
    """The machine that writes of each text what the other writes of what the one writes of it."""
    check_machine(one)
    check_machine(other)
    check_size(one, other)
    states, begin, ends, _ = one
    wide, other_begin, other_ends, _ = other
    both_ends = sorted({end * wide + other_end for end in ends for other_end in other_ends})
    return (states * wide, begin * wide + other_begin, both_ends, joined_moves(one, other))


def check_size(one, other):
    """Refuse with TooGreat two machines that are too great to be joined."""
    states, _, _, moves = one
    other_states, _, _, other_moves = other
    if states * other_states > MOST_JOINED_STATES:
        raise TooGreat(f"the states of both, multiplied, may be {MOST_JOINED_STATES} at most")
    if (len(moves) + states) * (len(other_moves) + other_states) > MOST_JOINED_SIZE:
        raise TooGreat(f"the moves and states of both, multiplied, may be {MOST_JOINED_SIZE} at most")


def joined_moves(one, other):
    """The moves of the first alone, those of the second alone, and those of both at once.

    The joined machine is in the state state * wide + other_state where the
    machines are in these.
    """
    states, _, _, moves = one
    wide, _, _, other_moves = other
    joint = []
    for start, read, write, goal in moves:
        if write == "":
            joint.extend([(start * wide + state, read, "", goal * wide + state) for state in range(wide)])
    for start, read, write, goal in other_moves:
        if read == "":
            joint.extend([(state * wide + start, "", write, state * wide + goal) for state in range(states)])
    for start, read, passed, goal in moves:
        for other_start, taken, write, other_goal in other_moves:
            if passed == taken and passed != "":
                joint.append((start * wide + other_start, read, write, goal * wide + other_goal))
    return joint


def between(one, other, text, writing):
    """A text that the one writes of the text and of which the other writes the writing, or None."""
    check_machine(one)
    check_machine(other)
    return common_writing(Lane(one, text), Lane(turned(other), writing))


def common_writing(first, second):
    """A text that is written along both lanes, or None.

    A spot is a place of each lane, and the sign that was written along the
    first lane and is still to be written along the second one. Any text will
    do, so the spots at which most is read are taken first; among these, first
    come is first served, which keeps the text short. Mostly this leads to an
    end soon. If it does not, it is found out which spots can lead there.
    """
    start = (first.begin, second.begin, "")
    came = {start: None}
    waiting = [deque([start])]
    live = None
    while waiting:
        if not waiting[-1]:
            waiting.pop()
            continue
        spot = waiting[-1].popleft()
        if is_last(first, second, spot):
            return owed_on_the_way(came, spot)
        if live is None and len(came) > MOST_UNGUIDED:
            live = Live(first, second)
        if live is not None and is_dead(live, spot):
            continue
        further = deque()
        for then, read in next_spots(first, second, spot):
            if then not in came:
                came[then] = spot
                if read:
                    further.append(then)
                else:
                    waiting[-1].append(then)
        if further:
            waiting.append(further)
    return None


def is_last(first, second, spot):
    """Whether both lanes have come to an end."""
    place, other_place, owed = spot
    return owed == "" and place in first.ends and other_place in second.ends


def is_dead(live, spot):
    """Whether it is known that both lanes cannot come to an end together."""
    place, other_place, owed = spot
    return owed == "" and not live.has(place, other_place)


def next_spots(first, second, spot):
    """The pairs (next spot, signs read) that one move along one of the lanes leads to."""
    place, other_place, owed = spot
    found = []
    if owed == "":
        for write, steps in first.steps(place).items():
            found.extend([((then, other_place, write), read) for then, read, _ in steps])
    for then, read, _ in second.steps(other_place).get(owed, []):
        found.append(((place, then, ""), read))
    return found


def owed_on_the_way(came, spot):
    """The signs that were owed on the way to a spot, in their order."""
    signs = []
    while spot is not None:
        signs.append(spot[2])
        spot = came[spot]
    return "".join(signs[::-1])
