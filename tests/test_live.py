import unittest

from tests.oracles import both_write, some_machines
from turnwriter.lanes import Lane
from turnwriter.live import Live
from turnwriter.machines import turned


def from_state(machine, state):
    """The machine with another state to begin in."""
    states, _, ends, moves = machine
    return (states, state, ends, moves)


class LiveTest(unittest.TestCase):
    """What guides a long search: nothing that it gives may be wrong, and nothing may be missing."""

    def test_against_the_plainest_search(self):
        seen = {True: 0, False: 0}
        for signs in ("ab", "abc"):
            machines = some_machines(signs * 6, 300, signs, 4, 14)
            for one, other in zip(machines, machines[1:]):
                for text, writing in (("ab", "ba"), ("aa", "aa"), ("", "b"), ("aba", "a")):
                    for told, live in self.all_pairs(one, other, text, writing):
                        seen[told] += 1
                        self.assertIs(live, told, (one, other, text, writing))
        self.assertGreater(min(seen.values()), 500)

    def all_pairs(self, one, other, text, writing):
        """For each two places: whether both can come to an end together, and what Live tells of it."""
        first, second = Lane(one, text), Lane(turned(other), writing)
        live = Live(first, second)
        for had in range(len(text) + 1):
            for put in range(len(writing) + 1):
                for state in range(one[0]):
                    for other_state in range(other[0]):
                        place, other_place = had * one[0] + state, put * other[0] + other_state
                        # The lanes leave out what no way passes, so nothing is told of it.
                        if first.has(place) and second.has(other_place):
                            begun, other_begun = from_state(one, state), from_state(other, other_state)
                            told = both_write(begun, other_begun, text[had:], writing[put:])
                            yield told, live.has(place, other_place)


if __name__ == "__main__":
    unittest.main()
