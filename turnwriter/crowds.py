"""Many states at once: a crowd is a set of states, as a whole number in which state k is the bit 2 ** k."""


def crowd_of(states):
    """The crowd of these states."""
    crowd = 0
    for state in states:
        crowd |= 1 << state
    return crowd


class Leads:
    """To which states steps (start, kind, goal) of each kind lead a crowd."""

    def __init__(self, steps):
        self.goals = {}
        for start, kind, goal in steps:
            by_start = self.goals.setdefault(kind, {})
            by_start[start] = by_start.get(start, 0) | 1 << goal
        # Few crowds come up, each of them often, so what was found is kept.
        self.by_one = {}
        self.by_any = {}

    def led(self, crowd, kind):
        """The crowd that one step of this kind leads to."""
        asked = (crowd, kind)
        if asked not in self.by_one:
            self.by_one[asked] = self.found_by_one(crowd, kind)
        return self.by_one[asked]

    def found_by_one(self, crowd, kind):
        led = 0
        by_start = self.goals.get(kind, {})
        for start, goals in by_start.items():
            if crowd >> start & 1:
                led |= goals
        return led

    def spread(self, crowd, kind):
        """The crowd that steps of this kind lead to, as many as one likes, also none."""
        asked = (crowd, kind)
        if asked not in self.by_any:
            self.by_any[asked] = self.found_by_any(crowd, kind)
        return self.by_any[asked]

    def found_by_any(self, crowd, kind):
        by_start = self.goals.get(kind, {})
        spread = crowd
        waiting = crowd
        while waiting:
            lowest = waiting & -waiting
            new = by_start.get(lowest.bit_length() - 1, 0) & ~spread
            spread |= new
            waiting = (waiting | new) ^ lowest
        return spread


def useful(machine, text):
    """For each number of signs read, the crowd of states in which a way that reads the text then may be."""
    _, begin, ends, moves = machine
    ahead = read_on([(start, read, goal) for start, read, _, goal in moves], [begin], text)
    back = read_on([(goal, read, start) for start, read, _, goal in moves], ends, text[::-1])
    return [reached & live for reached, live in zip(ahead, back[::-1])]


def read_on(steps, starts, text):
    """For each number of signs read, the crowd that steps (start, read, goal) lead to from the starts."""
    leads = Leads(steps)
    crowds = [leads.spread(crowd_of(starts), "")]
    for sign in text:
        crowds.append(leads.spread(leads.led(crowds[-1], sign), ""))
    return crowds
