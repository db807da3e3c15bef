"""What a machine is, and the machine turned the other way round."""

from turnwriter.errors import BadMachine

MOST_STATES = 100
MOST_MOVES = 1000


# No message below shows the number that is wrong: Python refuses to write out
# a number of thousands of digits, and its error would hide the BadMachine.


def check_machine(machine):
    """Refuse with BadMachine a machine that is out of the bounds of point 2."""
    states, begin, ends, moves = machine
    if not 1 <= states <= MOST_STATES:
        raise BadMachine(f"a machine has 1 to {MOST_STATES} states")
    if len(moves) > MOST_MOVES:
        raise BadMachine(f"a machine has at most {MOST_MOVES} moves")
    check_state(begin, states)
    for end in ends:
        check_state(end, states)
    for start, read, write, goal in moves:
        check_state(start, states)
        check_sign(read)
        check_sign(write)
        check_state(goal, states)


def check_state(state, states):
    """Refuse a state that is not one of the machine's so many states."""
    if not 0 <= state < states:
        raise BadMachine("a state is numbered from 0 to one below the number of states")


def check_sign(text):
    """Refuse what a move reads or writes, if it is more than one sign."""
    if len(text) > 1:
        raise BadMachine("a move reads one sign or none, and writes one sign or none")


def turned(machine):
    """The machine that reads what this one writes, and writes what it reads."""
    check_machine(machine)
    states, begin, ends, moves = machine
    other_way = [(start, write, read, goal) for start, read, write, goal in moves]
    return (states, begin, list(ends), other_way)
