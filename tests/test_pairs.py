import inspect
import unittest

from tests.oracles import (
    SIGNS, Watched, dense_machine, even_machines, good, is_twofold, ring, some_machines, standing_together, told_by,
    wrong_machines,
)
from turnwriter.errors import BadMachine, Twofold
from turnwriter.pairs import ahead, twofold

# The first branch writes at once, the second at the end only; both write "xy" of "ab".
LATE = (5, 0, [4], [(0, "a", "x", 1), (0, "a", "", 2), (1, "b", "y", 4), (2, "b", "x", 3), (3, "", "y", 4)])


class TwofoldTest(unittest.TestCase):
    """Point 7: two ways that read the same and write unlike texts."""

    def is_twofold(self, machine):
        found = twofold(machine)
        self.assertIs(type(found), tuple, machine)
        self.assertEqual([type(part) for part in found], [str, list, list])
        text, one, other = found
        told, other_told = told_by(machine, one), told_by(machine, other)
        self.assertIsNotNone(told, (machine, found))
        self.assertIsNotNone(other_told, (machine, found))
        self.assertTrue(told[0] == other_told[0] == text, (machine, found))
        self.assertTrue(told[1] != other_told[1], (machine, found))
        self.assertRaises(Twofold, ahead, machine)
        return found

    def is_not(self, machine):
        self.assertIsNone(twofold(machine), machine)
        self.assertIs(type(ahead(machine)), list)

    def test_two_signs_for_one(self):
        self.assertEqual(self.is_twofold((2, 0, [1], [(0, "a", "x", 1), (0, "a", "y", 1)]))[0], "a")

    def test_a_sign_or_none(self):
        self.is_twofold((2, 0, [1], [(0, "a", "x", 1), (0, "a", "", 1)]))
        self.is_twofold((2, 0, [1, 0], [(0, "", "x", 1)]))
        self.is_not((2, 0, [1], [(0, "", "x", 1)]))

    def test_the_same_written_in_two_ways(self):
        self.is_not((2, 0, [1], [(0, "a", "x", 1), (0, "a", "x", 1), (0, "b", "", 1)]))
        self.is_not(LATE)
        self.is_not((3, 0, [1, 2, 2], [(0, "a", "x", 1), (0, "a", "x", 2)]))

    def test_unlike_texts_of_unlike_texts(self):
        self.is_not((2, 0, [1], [(0, "a", "x", 1), (0, "b", "y", 1)]))
        self.is_not((1, 0, [0], [(0, sign, sign, 0) for sign in SIGNS]))

    def test_writing_without_end(self):
        self.is_twofold((1, 0, [0], [(0, "", "x", 0)]))
        self.is_twofold((2, 0, [1], [(0, "a", "", 1), (1, "", "x", 1)]))
        self.is_twofold((3, 0, [2], [(0, "", "x", 1), (1, "", "", 0), (0, "a", "", 2)]))

    def test_going_round_in_silence(self):
        self.is_not((1, 0, [0], [(0, "", "", 0), (0, "a", "b", 0)]))
        self.is_not((3, 0, [2], [(0, "", "", 1), (1, "", "", 0), (0, "a", "b", 2), (1, "a", "b", 2)]))
        self.is_twofold((3, 0, [2], [(0, "", "", 1), (1, "", "", 0), (0, "a", "b", 2), (1, "a", "c", 2)]))

    def test_what_cannot_come_to_an_end_does_not_count(self):
        dead = [(0, "a", "x", 1), (0, "a", "y", 2), (1, "b", "x", 3)]
        self.is_not((4, 0, [3], dead))
        self.is_not((4, 0, [3], dead + [(2, "c", "x", 3)]))
        self.is_twofold((4, 0, [3], dead + [(2, "b", "x", 3)]))
        # Each of both states leads to an end, but by no text that the other one reads.
        self.is_not((3, 0, [2], [(0, "", "x", 1), (0, "", "", 0), (0, "a", "", 2), (1, "b", "", 2), (1, "", "", 1)]))
        self.is_not((2, 0, [], [(0, "a", "x", 1), (0, "a", "y", 1)]))
        self.is_not((2, 0, [0], [(0, "a", "x", 1), (0, "a", "y", 1), (1, "", "z", 1)]))

    def test_what_begin_does_not_lead_to_does_not_count(self):
        self.is_not((3, 0, [0, 2], [(1, "a", "x", 2), (1, "a", "y", 2), (1, "", "z", 1)]))

    def test_unlike_only_far_behind(self):
        moves = [(at, "a", "x", at + 1) for at in range(20)] + [(0, "a", "x", 21)]
        moves += [(at, "a", "x", at + 1) for at in range(21, 40)]
        self.is_not((41, 0, [20, 40], moves))
        self.is_twofold((41, 0, [20, 40], moves + [(20, "b", "x", 20), (40, "b", "", 40)]))
        self.is_twofold((41, 0, [20, 40], moves + [(20, "b", "x", 20), (40, "b", "y", 40)]))
        self.is_not((41, 0, [20, 40], moves + [(20, "b", "x", 20), (40, "c", "y", 40)]))

    def test_texts_of_unlike_length(self):
        self.is_twofold((3, 0, [2], [(0, "a", "x", 1), (1, "b", "x", 2), (0, "a", "x", 2), (2, "b", "", 2)]))
        self.is_twofold((4, 0, [3], [(0, "a", "", 1), (1, "", "x", 3), (0, "a", "", 2), (2, "", "", 3)]))

    def test_only_by_going_round(self):
        # Without going round, both branches write the same.
        moves = [(0, "a", "", 1), (0, "a", "", 2), (1, "b", "", 3), (2, "b", "", 3)]
        self.is_not((4, 0, [3], moves))
        self.is_twofold((4, 0, [3], moves + [(1, "a", "x", 1), (2, "a", "", 2)]))
        self.is_twofold((4, 0, [3], moves + [(1, "a", "x", 1), (2, "a", "y", 2)]))
        self.is_not((4, 0, [3], moves + [(1, "a", "x", 1), (2, "a", "x", 2)]))
        self.is_not((4, 0, [3], moves + [(1, "a", "x", 1), (2, "c", "", 2)]))

    def test_round_and_round_until_both_meet(self):
        moves = [(0, "", "", 1), (0, "", "", 8)]
        moves += [(at, "a", "x", at + 1) for at in range(1, 7)] + [(7, "a", "x", 1)]
        moves += [(at, "a", "x", at + 1) for at in range(8, 12)] + [(12, "a", "", 8)]
        # Only what reads thirty-five a's comes to an end on both sides at once.
        self.assertEqual(len(self.is_twofold((14, 0, [13], moves + [(1, "b", "", 13), (8, "b", "", 13)]))[0]), 36)
        self.is_not((14, 0, [13], moves + [(1, "b", "", 13), (8, "c", "", 13)]))

    def test_the_gap_turns_round(self):
        # First the one is ahead, then the other; at the end neither.
        one = [(0, "a", "x", 1), (1, "b", "", 2), (2, "c", "", 3), (3, "d", "z", 7)]
        other = [(0, "a", "", 4), (4, "b", "x", 5), (5, "c", "z", 6), (6, "d", "", 7)]
        self.is_not((8, 0, [7], one + other))
        self.is_twofold((8, 0, [7], one + other[:2] + [(5, "c", "y", 6), other[3]]))
        self.is_twofold((8, 0, [7], one + other[:3] + [(6, "d", "z", 7)]))

    def test_the_shorter_beginning_is_the_one_that_writes_something_else(self):
        # Both beginnings lead to the same states; with the rest, only the first of them writes unlike texts.
        moves = [(0, "a", "x", 1), (0, "a", "", 1), (0, "a", "", 2), (1, "", "", 4), (4, "b", "", 3), (2, "b", "", 3)]
        self.is_twofold((5, 0, [3], moves))
        self.is_twofold((5, 0, [3], [moves[1], moves[0], *moves[2:]]))
        self.is_not((5, 0, [3], moves[1:]))

    def test_no_ways_at_all(self):
        self.is_not((1, 0, [], []))
        self.is_not((1, 0, [0], []))
        self.is_not((2, 0, [1], [(1, "a", "x", 1), (1, "a", "y", 1)]))

    def test_against_the_plainest_search(self):
        seen = {True: 0, False: 0}
        for signs, many in (("a", 60), ("ab", 100), ("abc", 60)):
            for machine in some_machines(signs * 3, many, signs):
                told = is_twofold(machine)
                seen[told] += 1
                if told:
                    self.is_twofold(machine)
                else:
                    self.is_not(machine)
        self.assertGreater(min(seen.values()), 50)

    def test_great_ones(self):
        self.is_twofold(dense_machine(1, 100, 1000, "ab"))
        self.is_twofold(dense_machine(1, 100, 1000, SIGNS))
        self.is_not(ring(100, "a", "b"))
        self.is_not((100, 0, [99], [(at % 100, "a", "x", at * 7 % 100) for at in range(1000)]))
        last = [(at % 100, "a", "x", at * 7 % 99) for at in range(999)] + [(98, "a", "", 99)]
        self.is_twofold((100, 0, [99, 5], last))


class AheadTest(unittest.TestCase):
    """Points 8 and 9: states that stand together, and how far they are ahead."""

    def test_one_way_only(self):
        self.assertEqual(ahead((1, 0, [0], [])), [(0, 0, "", "")])
        self.assertEqual(ahead(ring(3, "a", "b")), [(0, 0, "", ""), (1, 1, "", ""), (2, 2, "", "")])

    def test_no_way(self):
        self.assertEqual(ahead((1, 0, [], [])), [])
        self.assertEqual(ahead((2, 0, [1], [(1, "a", "b", 1), (1, "a", "c", 0)])), [])
        self.assertEqual(ahead((3, 0, [2], [(0, "a", "b", 1)])), [])

    def test_both_orders_and_both_texts(self):
        self.assertEqual(
            ahead(LATE),
            [
                (0, 0, "", ""), (1, 1, "", ""), (1, 2, "x", ""), (2, 1, "", "x"), (2, 2, "", ""),
                (3, 3, "", ""), (3, 4, "", "y"), (4, 3, "y", ""), (4, 4, "", ""),
            ],
        )

    def test_some_signs_ahead(self):
        quick = [(0, "a", "x", 1), (1, "b", "y", 2), (2, "c", "z", 7)]
        slow = [(0, "a", "", 3), (3, "b", "", 4), (4, "c", "", 5), (5, "", "x", 6), (6, "", "y", 8), (8, "", "z", 7)]
        told = ahead((9, 0, [7], quick + slow))
        self.assertIn((1, 3, "x", ""), told)
        self.assertIn((2, 4, "xy", ""), told)
        self.assertIn((4, 2, "", "xy"), told)
        self.assertIn((5, 7, "", "xyz"), told)
        self.assertIn((7, 6, "yz", ""), told)
        self.assertIn((8, 7, "", "z"), told)
        self.assertEqual(len(told), 9 + 2 * (2 + 3 + 3))

    def test_silent_moves_of_one_of_both(self):
        # In state 1 nothing more is read than in state 0, so both stand together.
        self.assertEqual(
            ahead((3, 0, [2], [(0, "", "x", 1), (1, "", "y", 2)])),
            [
                (0, 0, "", ""), (0, 1, "", "x"), (0, 2, "", "xy"), (1, 0, "x", ""), (1, 1, "", ""),
                (1, 2, "", "y"), (2, 0, "xy", ""), (2, 1, "y", ""), (2, 2, "", ""),
            ],
        )

    def test_states_that_no_way_to_an_end_passes(self):
        moves = [(0, "a", "x", 1), (0, "a", "y", 2), (3, "a", "x", 1), (0, "a", "x", 4), (4, "b", "", 4)]
        self.assertEqual(ahead((5, 0, [1], moves)), [(0, 0, "", ""), (1, 1, "", "")])

    def test_states_whose_rests_do_not_read_the_same(self):
        moves = [(0, "a", "x", 1), (0, "a", "y", 2), (1, "b", "", 3), (2, "c", "", 3)]
        self.assertEqual(ahead((4, 0, [3], moves)), [(at, at, "", "") for at in range(4)])
        moves += [(1, "d", "", 3), (2, "d", "", 3)]
        self.assertRaises(Twofold, ahead, (4, 0, [3], moves))

    def test_states_to_which_the_same_does_not_lead(self):
        moves = [(0, "a", "x", 1), (0, "b", "y", 2), (1, "c", "", 3), (2, "c", "", 3)]
        self.assertEqual(ahead((4, 0, [3], moves)), [(at, at, "", "") for at in range(4)])

    def test_an_end_that_is_not_the_last_state(self):
        self.assertEqual(
            ahead((3, 2, [0, 0], [(2, "a", "x", 0), (2, "a", "", 1), (1, "", "x", 0)])),
            [(0, 0, "", ""), (0, 1, "x", ""), (1, 0, "", "x"), (1, 1, "", ""), (2, 2, "", "")],
        )

    def test_in_rising_order(self):
        moves = [(0, "a", "x", at) for at in range(1, 12)] + [(at, "b", "", 12) for at in range(1, 12)]
        expected = [(one, other) for one in range(1, 12) for other in range(1, 12)]
        told = ahead((13, 0, [12], moves))
        self.assertEqual([(one, other) for one, other, _, _ in told], [(0, 0), *expected, (12, 12)])

    def test_each_once(self):
        told = ahead((2, 0, [1, 1], [(0, "a", "x", 1)] * 3 + [(1, "a", "x", 1), (1, "", "", 1)]))
        self.assertEqual(told, [(0, 0, "", ""), (1, 1, "", "")])

    def test_refused_where_the_machine_is_twofold(self):
        for machine in ((2, 0, [1], [(0, "a", "x", 1), (0, "a", "y", 1)]), (1, 0, [0], [(0, "", "x", 0)])):
            with self.assertRaises(Twofold) as caught:
                ahead(machine)
            self.assertIs(type(caught.exception), Twofold)

    def test_against_the_plainest_search(self):
        together = 0
        for signs, many, moves in (("a", 100, 5), ("ab", 150, 6), ("abc", 100, 8)):
            for machine in some_machines(signs * 4, many, signs, 4, moves):
                if is_twofold(machine):
                    self.assertRaises(Twofold, ahead, machine)
                else:
                    expected = standing_together(machine)
                    self.assertEqual(ahead(machine), expected, machine)
                    together += len(expected)
        self.assertGreater(together, 100)

    def test_machines_with_late_states(self):
        late = 0
        for signs in ("a", "ab"):
            for machine in even_machines(signs, 120, signs):
                expected = standing_together(machine)
                self.assertIsNone(twofold(machine), machine)
                self.assertEqual(ahead(machine), expected, machine)
                late += sum(1 for told in expected if told[2] != told[3])
        self.assertGreater(late, 300)

    def test_one_move_more_that_writes_too_much_or_too_little(self):
        seen = {True: 0, False: 0}
        for machine in even_machines("twofold", 60, "ab"):
            states, begin, ends, moves = machine
            for at in range(len(moves)):
                start, read, write, goal = moves[at]
                other = (states, begin, ends, moves[:at] + [(start, read, "" if write else "x", goal)] + moves[at + 1:])
                told = is_twofold(other)
                seen[told] += 1
                self.assertEqual(twofold(other) is not None, told, other)
        self.assertGreater(min(seen.values()), 50)

    def test_kinds_of_the_answer(self):
        told = ahead(LATE)
        self.assertIs(type(told), list)
        for pair in told:
            self.assertIs(type(pair), tuple)
            self.assertEqual([type(part) for part in pair], [int, int, str, str])

    def test_great_ones(self):
        same = (100, 0, [99], [(at % 100, "a", "x", at * 7 % 100) for at in range(1000)])
        told = ahead(same)
        self.assertTrue(told == sorted(told))
        self.assertTrue(all(pair[2:] == ("", "") for pair in told))
        chain = (100, 0, [99], [(at, "", "x", at + 1) for at in range(99)])
        told = ahead(chain)
        pairs = [(one, other) for one in range(100) for other in range(100)]
        self.assertTrue(told == [(one, other, "x" * (one - other), "x" * (other - one)) for one, other in pairs])


class AlikeTest(unittest.TestCase):
    """Points 1 and 2, and the interface, for each function of the file."""

    def test_each_wrong_machine_is_refused(self):
        for machine in wrong_machines():
            for function in (twofold, ahead):
                with self.assertRaises(BadMachine) as caught:
                    function(machine)
                self.assertIs(type(caught.exception), BadMachine)

    def test_ahead_of_all_else(self):
        for wrong in ((3, 0, [], [(1, "ab", "", 1)]), (1, 0, [0], [(0, "", "x", 0), (0, "", "", 1)])):
            self.assertRaises(BadMachine, twofold, wrong)
            self.assertRaises(BadMachine, ahead, wrong)

    def test_nothing_handed_in_is_changed(self):
        for machine in (good(), LATE, (2, 0, [1, 1], [(0, "a", "x", 1), (0, "a", "y", 1)]), (1, 0, [], [])):
            watched = Watched(machine)
            twofold(machine)
            self.assertFalse(watched.is_changed())
            try:
                ahead(machine)
            except Twofold:
                pass
            self.assertFalse(watched.is_changed())

    def test_lists_are_new_ones(self):
        watched, first = Watched(LATE), ahead(LATE)
        expected = list(first)
        first.clear()
        self.assertFalse(watched.is_changed())
        self.assertEqual(ahead(LATE), expected)
        machine = (2, 0, [1], [(0, "a", "x", 1), (0, "a", "y", 1)])
        watched, found = Watched(machine), twofold(machine)
        expected = Watched(*found).before
        self.assertIsNot(found[1], found[2])
        found[1].append(0)
        found[2].clear()
        self.assertFalse(watched.is_changed())
        self.assertEqual(twofold(machine), expected)

    def test_a_machine_changed_in_between_is_looked_at_anew(self):
        machine = (2, 0, [1], [(0, "a", "x", 1)])
        self.assertEqual((twofold(machine), ahead(machine)), (None, [(0, 0, "", ""), (1, 1, "", "")]))
        machine[3].append((0, "a", "y", 1))
        self.assertIsNotNone(twofold(machine))
        self.assertRaises(Twofold, ahead, machine)
        machine[2].append(2)
        self.assertRaises(BadMachine, twofold, machine)
        self.assertRaises(BadMachine, ahead, machine)

    def test_defined_in_its_file_with_the_arguments_as_told(self):
        for function in (twofold, ahead):
            self.assertEqual(function.__module__, "turnwriter.pairs")
            self.assertEqual(list(inspect.signature(function).parameters), ["machine"])
        self.assertIsNone(twofold(machine=LATE))
        self.assertEqual(ahead(machine=LATE), ahead(LATE))


if __name__ == "__main__":
    unittest.main()
