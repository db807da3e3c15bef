"""What the points say, told once more in the plainest way, for the tests to compare with."""

import copy
import random
from itertools import product

SIGNS = [chr(at) for at in range(ord(" "), ord("~") + 1) if chr(at) != "%"]


def texts(signs, most):
    """All texts of these signs, up to so many signs, in no special order."""
    return ["".join(told) for many in range(most + 1) for told in product(signs, repeat=many)]


def told_by(machine, way):
    """What a way reads and writes (point 3), or None where it is no way of the machine."""
    _, state, ends, moves = machine
    text = writing = ""
    for at in way:
        if type(at) is not int or not 0 <= at < len(moves):
            return None
        start, read, write, goal = moves[at]
        if start != state:
            return None
        text, writing, state = text + read, writing + write, goal
    return (text, writing) if state in ends else None


def fewest(machine, text, writing):
    """With how few moves a way reads the text and writes the writing, or None."""
    _, begin, ends, moves = machine
    seen = {(begin, 0, 0)}
    now, many = [(begin, 0, 0)], 0
    while now:
        later = []
        for state, had, put in now:
            if state in ends and had == len(text) and put == len(writing):
                return many
            for start, read, write, goal in moves:
                if start == state and text.startswith(read, had) and writing.startswith(write, put):
                    place = (goal, had + len(read), put + len(write))
                    if place not in seen:
                        seen.add(place)
                        later.append(place)
        now, many = later, many + 1
    return None


def writes(machine, text, writing):
    """Whether the machine writes the writing of the text (point 4)."""
    return fewest(machine, text, writing) is not None


def reads_some(machine, text):
    """Whether the machine writes anything at all of the text."""
    states, begin, ends, moves = machine
    return writes((states, begin, ends, [(start, read, "", goal) for start, read, _, goal in moves]), text, "")


def both_write(one, other, text, writing):
    """Whether there is a text that the one writes of the text and of which the other writes the writing."""
    seen = {(one[1], 0, other[1], 0)}
    todo = list(seen)
    while todo:
        state, had, second, put = todo.pop()
        if state in one[2] and second in other[2] and had == len(text) and put == len(writing):
            return True
        found = []
        for start, read, passed, goal in one[3] + [(state, "", "", state)]:
            for begun, taken, write, then in other[3] + [(second, "", "", second)]:
                if start == state and begun == second and passed == taken:
                    if text.startswith(read, had) and writing.startswith(write, put):
                        found.append((goal, had + len(read), then, put + len(write)))
        for place in found:
            if place not in seen:
                seen.add(place)
                todo.append(place)
    return False


def gap_of(one, other):
    """What one text has more than the other, and the other more than it; None where they part."""
    if one.startswith(other):
        return one[len(other):], ""
    if other.startswith(one):
        return "", other[len(one):]
    return None


def reached_pairs(machine, most):
    """The tuples (first, second, gap) of two beginnings that read the same, for gaps of at most so many signs."""
    _, begin, _, moves = machine
    still = ("", "")
    seen = {(begin, begin, still)}
    todo = list(seen)
    while todo:
        first, second, gap = todo.pop()
        for start, read, write, goal in moves + [(first, "", "", first)]:
            for begun, taken, put, then in moves + [(second, "", "", second)]:
                if start == first and begun == second and read == taken:
                    new = gap and gap_of(gap[0] + write, gap[1] + put)
                    place = (goal, then, new)
                    if place not in seen and (new is None or len(new[0] + new[1]) <= most):
                        seen.add(place)
                        todo.append(place)
    return seen


def live_pairs(machine):
    """The pairs of states from which two rests read the same."""
    states, _, ends, moves = machine
    live = set(product(ends, repeat=2))
    grown = True
    while grown:
        grown = False
        for start, read, _, goal in moves + [(state, "", "", state) for state in range(states)]:
            for begun, taken, _, then in moves + [(state, "", "", state) for state in range(states)]:
                if read == taken and (goal, then) in live and (start, begun) not in live:
                    live.add((start, begun))
                    grown = True
    return live


def is_twofold(machine, most=8):
    """Whether two ways read the same and write unlike texts, as far as gaps of so many signs tell."""
    ends = machine[2]
    return any(
        first in ends and second in ends and gap != ("", "") for first, second, gap in reached_pairs(machine, most)
    )


def standing_together(machine, most=8):
    """All that ahead tells of a machine that is not twofold."""
    live = live_pairs(machine)
    return sorted((a, b, *gap) for a, b, gap in reached_pairs(machine, most) if (a, b) in live)


def some_machines(seed, many, signs, most_states=4, most_moves=8, most_ends=2):
    """So many machines, the same for each seed."""
    chance = random.Random(seed)
    machines = []
    for _ in range(many):
        none = chance.choice([0.1, 0.3, 0.5])
        states = chance.randint(1, most_states)
        moves = []
        for _ in range(chance.randint(0, most_moves)):
            read = "" if chance.random() < none else chance.choice(signs)
            write = "" if chance.random() < none else chance.choice(signs)
            moves.append((chance.randrange(states), read, write, chance.randrange(states)))
        ends = [chance.randrange(states) for _ in range(chance.randint(0, most_ends))]
        machines.append((states, chance.randrange(states), ends, moves))
    return machines


def even_machines(seed, many, signs):
    """So many machines that are not twofold: each state is some signs late, and the ends are equally late."""
    chance = random.Random(seed)
    machines = []
    for _ in range(many):
        states = chance.randint(2, 6)
        late = [chance.randint(0, 3) for _ in range(states)]
        moves = []
        for _ in range(chance.randint(8, 40)):
            start, read, goal = chance.randrange(states), chance.choice(["", *signs]), chance.randrange(states)
            write = "x" * (len(read) + late[start] - late[goal])
            if 0 <= len(read) + late[start] - late[goal] <= 1:
                moves.append((start, read, write, goal))
        ends = [state for state in range(states) if late[state] == late[states - 1]]
        machines.append((states, chance.randrange(states), ends, moves))
    return machines


def dense_machine(seed, states, moves, signs):
    """A machine with so many moves, whose only end is its last state."""
    chance = random.Random(seed)
    kinds = ["", *signs]
    told = [
        (chance.randrange(states), chance.choice(kinds), chance.choice(kinds), chance.randrange(states))
        for _ in range(moves)
    ]
    return (states, 0, [states - 1], told)


def ring(states, read, write, ends=(0,)):
    """A machine that goes round by moves that all read and write the same."""
    return (states, 0, list(ends), [(at, read, write, (at + 1) % states) for at in range(states)])


def good():
    return (3, 0, [1, 2, 1], [(0, "a", "b", 1), (1, "", "c", 2), (2, "d", "", 0), (0, "", "", 2)])


def wrong_machines():
    """Machines that point 2 refuses, wrong in each place in turn."""
    move = (0, "a", "b", 1)
    wrong = [(states, 0, [], []) for states in (0, -1, 101, 1000, 10 ** 5000)]
    for state in (-1, 2, 3, 10 ** 9, -(10 ** 5000)):
        wrong.append((2, state, [1], [move]))
        wrong.append((2, 0, [state], [move]))
        wrong.append((2, 0, [1, 0, state], [move]))
        wrong.append((2, 0, [1], [(state, "a", "b", 1)]))
        wrong.append((2, 0, [1], [move, (0, "a", "b", state)]))
    for text in ("ab", "aa", "  ", "abc", "x" * 300):
        wrong.append((2, 0, [1], [(0, text, "b", 1), move]))
        wrong.append((2, 0, [1], [move, (0, "a", text, 1)]))
    wrong.append((2, 0, [1], [move] * 1001))
    wrong.append((100, 0, [1], [move] * 1000 + [(0, "", "", 0)]))
    return wrong


class Watched:
    """Looks that what is handed in is the same after a call as before it."""

    def __init__(self, *told):
        self.told = told
        self.before = copy.deepcopy(told)

    def is_changed(self):
        return self.told != self.before
