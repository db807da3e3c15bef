"""From where two lanes can still come to an end together."""


class Live:
    """The pairs of a place of each of two lanes from which both can come to an end by writing the same.

    For each place of the first lane there are rows: for states of the second
    one a whole number, in which the bit 2 ** k stands for the place of the
    second lane where k signs are read. So one step serves all these places.
    """

    def __init__(self, first, second):
        self.first = first
        self.second = second
        self.back_moves = self.found_back_moves()
        self.rows = {}
        self.fill()

    def has(self, place, other_place):
        """Whether both lanes can come to an end together from these places."""
        at, state = divmod(other_place, self.second.states)
        return place in self.rows and self.rows[place].get(state, 0) >> at & 1 == 1

    def found_back_moves(self):
        """For each text written by a move along the second lane and the goal of the move: what step_back needs."""
        where = {"": (2 << len(self.second.text)) - 1}
        for at, sign in enumerate(self.second.text):
            where[sign] = where.get(sign, 0) | 1 << at
        back_moves = {}
        for goal, moves in enumerate(self.second.entering):
            for start, read, write in moves:
                if read in where:
                    back_moves.setdefault((write, goal), []).append((start, len(read), where[read]))
        return back_moves

    def fill(self):
        """Find all rows, from the ends of the first lane back to its begin."""
        waiting = {place: self.end_rows() for place in self.first.ends}
        while waiting:
            # What leads here by a move that reads is done with only once nothing more can come up here.
            before = {}
            while waiting:
                for place in list(waiting):
                    self.fill_from(place, waiting.pop(place), waiting, before)
            waiting = before

    def end_rows(self):
        """The rows in which only the ends of the second lane stand."""
        rows = {}
        for place in self.second.ends:
            at, state = divmod(place, self.second.states)
            add_rows(rows, {state: 1 << at})
        return rows

    def fill_from(self, place, rows, waiting, before):
        """Add these rows to those of a place, and let what is new wait at the places that lead to it."""
        had = self.rows.setdefault(place, {})
        new = without(self.spread_back(without(rows, had)), had)
        if not new:
            return
        add_rows(had, new)
        led_back = {"": new}
        for then, read, write in self.first.steps_back(place):
            if write not in led_back:
                led_back[write] = self.step_back(new, write)
            found = before if read else waiting
            add_rows(found.setdefault(then, {}), led_back[write])

    def step_back(self, rows, write):
        """The rows that lead to these by one move along the second lane that writes this."""
        before = {}
        for goal, row in rows.items():
            for start, read, where in self.back_moves.get((write, goal), []):
                before[start] = before.get(start, 0) | row >> read & where
        return before

    def spread_back(self, rows):
        """The rows that lead to these by moves along the second lane that write nothing."""
        spread = dict(rows)
        new = rows
        while new:
            new = without(self.step_back(new, ""), spread)
            add_rows(spread, new)
        return spread


def add_rows(rows, more):
    """Add to rows what stands in other ones."""
    for state, row in more.items():
        rows[state] = rows.get(state, 0) | row


def without(rows, others):
    """What stands in rows and not in other ones."""
    left = {state: row & ~others.get(state, 0) for state, row in rows.items()}
    return {state: row for state, row in left.items() if row}
