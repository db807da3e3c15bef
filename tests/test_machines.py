import copy
import inspect
import unittest
from itertools import product

from turnwriter import machines
from turnwriter.errors import BadMachine
from turnwriter.machines import turned

SIGNS = [chr(at) for at in range(ord(" "), ord("~") + 1) if chr(at) != "%"]
BEYOND = (10 ** 9, -(10 ** 9), 10 ** 5000, -(10 ** 5000))


def good():
    return (3, 0, [1, 2, 1], [(0, "a", "b", 1), (1, "", "c", 2), (2, "d", "", 0), (0, "", "", 2)])


def writes(machine, text, writing):
    """Whether the machine writes the writing of the text, by points 3 and 4 alone."""
    _, begin, ends, moves = machine
    seen = {(begin, 0, 0)}
    todo = [(begin, 0, 0)]
    while todo:
        state, had, put = todo.pop()
        if state in ends and had == len(text) and put == len(writing):
            return True
        for start, read, write, goal in moves:
            if start == state and text.startswith(read, had) and writing.startswith(write, put):
                place = (goal, had + len(read), put + len(write))
                if place not in seen:
                    seen.add(place)
                    todo.append(place)
    return False


class GoodMachineTest(unittest.TestCase):
    """Point 2: what is a machine is taken, also at the edges."""

    def taken(self, machine):
        answer = turned(machine)
        self.assertTrue(answer[:3] == machine[:3])
        self.assertEqual(len(answer[3]), len(machine[3]))

    def test_one_state_and_no_more(self):
        self.taken((1, 0, [], []))
        self.taken((1, 0, [0], [(0, "a", "b", 0)]))

    def test_hundred_states(self):
        self.taken((100, 0, [99], [(0, "a", "b", 99)]))

    def test_each_number_of_states_between(self):
        for states in range(1, 101):
            self.taken((states, states - 1, [0, states - 1], [(states - 1, "a", "", 0)]))

    def test_no_ends_and_an_end_told_twice(self):
        self.taken((2, 0, [], [(0, "a", "b", 1)]))
        self.taken((2, 0, [1, 1], [(0, "a", "b", 1)]))
        self.taken((2, 0, [1, 0, 1, 0], []))

    def test_more_ends_than_states_or_moves_may_be(self):
        self.taken((2, 0, [0, 1] * 600, []))

    def test_no_move_and_thousand_moves(self):
        self.taken((2, 0, [1], []))
        self.taken((2, 0, [1], [(0, "a", "b", 1)] * 1000))

    def test_first_and_last_state_in_each_place(self):
        for states in (1, 2, 3, 100):
            edges = (0, states - 1)
            for begin, end, start, goal in product(edges, repeat=4):
                self.taken((states, begin, [end], [(start, "a", "b", goal)]))

    def test_a_sign_or_none_in_each_place(self):
        for read, write in product(("", "a", " ", "~"), repeat=2):
            self.taken((1, 0, [0], [(0, read, write, 0)]))


class BadMachineTest(unittest.TestCase):
    """Point 2: what is no machine is refused with BadMachine."""

    def refused(self, machine):
        with self.assertRaises(BadMachine) as caught:
            turned(machine)
        self.assertIs(type(caught.exception), BadMachine)

    def test_too_few_states(self):
        for states in (0, -1, -2, -100, -(10 ** 5000)):
            self.refused((states, 0, [], []))
            self.refused((states, states - 1, [], []))

    def test_too_many_states(self):
        for states in (101, 102, 1000, 10 ** 5000):
            self.refused((states, 0, [], []))
            self.refused((states, 0, [1], [(0, "a", "b", 1)]))

    def test_begin_out_of_bounds(self):
        for states in (1, 3, 100):
            for begin in (-1, -states, states, states + 1, *BEYOND):
                self.refused((states, begin, [0], [(0, "a", "b", 0)]))

    def test_an_end_out_of_bounds_in_any_place(self):
        for states in (1, 3, 100):
            for end in (-1, -states, states, states + 1, *BEYOND):
                self.refused((states, 0, [end], []))
                for at in range(5):
                    ends = [0, states - 1, 0, 0]
                    ends.insert(at, end)
                    self.refused((states, 0, ends, [(0, "a", "b", 0)]))

    def test_an_end_out_of_bounds_behind_more_good_ones_than_states(self):
        for end in (-1, 2):
            self.refused((2, 0, [0, 1] * 600 + [end], []))

    def test_a_start_or_a_goal_out_of_bounds_in_any_move(self):
        for states in (1, 3, 100):
            for state in (-1, -states, states, states + 1, *BEYOND):
                for wrong in ((state, "a", "b", 0), (0, "a", "b", state), (state, "", "", state)):
                    self.refused((states, 0, [0], [wrong]))
                    self.refused_in_any_move(states, wrong)

    def test_a_read_or_a_write_of_more_signs_than_one_in_any_move(self):
        for text in ("ab", "aa", "  ", "a ", "abc", "x" * 300):
            for wrong in ((0, text, "b", 0), (0, "a", text, 0), (0, text, "", 0), (0, "", text, 0)):
                self.refused((1, 0, [0], [wrong]))
                self.refused_in_any_move(1, wrong)

    def refused_in_any_move(self, states, wrong):
        for at in range(4):
            moves = [(0, "a", "b", states - 1), (0, "", "", 0), (states - 1, "c", "", 0)]
            moves.insert(at, wrong)
            self.refused((states, 0, [0], moves))

    def test_a_wrong_move_as_the_thousandth(self):
        moves = [(0, "a", "b", 0)] * 999
        for wrong in ((1, "a", "b", 0), (0, "ab", "b", 0), (0, "a", "ab", 0), (0, "a", "b", 1)):
            self.refused((1, 0, [0], moves + [wrong]))

    def test_too_many_moves(self):
        for many in (1001, 1002, 3000):
            self.refused((100, 0, [0], [(0, "a", "b", 99)] * many))
            self.refused((1, 0, [], [(0, "", "", 0)] * many))

    def test_a_refused_machine_is_not_changed(self):
        machine = (3, 0, [1, 2, 3], [(0, "a", "b", 1), (1, "c", "d", 5)])
        before = copy.deepcopy(machine)
        self.refused(machine)
        self.assertEqual(machine, before)


class TurnedTest(unittest.TestCase):
    """Point 5: the turned machine."""

    def test_reads_and_writes_change_places(self):
        self.assertEqual(
            turned(good()),
            (3, 0, [1, 2, 1], [(0, "b", "a", 1), (1, "c", "", 2), (2, "", "d", 0), (0, "", "", 2)]),
        )

    def test_start_and_goal_stay(self):
        self.assertEqual(turned((2, 1, [0], [(1, "a", "b", 0)])), (2, 1, [0], [(1, "b", "a", 0)]))

    def test_no_ends_and_no_moves(self):
        self.assertEqual(turned((1, 0, [], [])), (1, 0, [], []))
        self.assertEqual(turned((100, 99, [99, 0, 99], [])), (100, 99, [99, 0, 99], []))

    def test_moves_keep_their_order_and_their_number(self):
        moves = [(1, "b", "a", 0), (0, "z", "a", 1), (1, "b", "a", 0), (0, "a", "z", 1)]
        self.assertEqual(
            turned((2, 0, [1], moves))[3],
            [(1, "a", "b", 0), (0, "a", "z", 1), (1, "a", "b", 0), (0, "z", "a", 1)],
        )

    def test_thousand_moves_in_their_order(self):
        moves = [(at // 10, SIGNS[at // 100], SIGNS[at // 37], at // 20) for at in range(1000)]
        states, begin, ends, answer = turned((100, 7, [5, 3, 5], moves))
        self.assertEqual((states, begin, ends), (100, 7, [5, 3, 5]))
        self.assertEqual(len(answer), 1000)
        # Move by move: unittest takes minutes to show how two long lists differ.
        for move, (start, read, write, goal) in zip(answer, moves):
            self.assertEqual(move, (start, write, read, goal))

    def test_ends_stay_as_they_are_listed(self):
        for ends in ([2, 0, 1], [1, 1], [2, 2, 0, 2], [0, 1, 2]):
            self.assertEqual(turned((3, 0, ends, []))[2], ends)

    def test_every_sign(self):
        self.assertEqual(len(SIGNS), 94)
        for sign in SIGNS:
            self.assertEqual(turned((1, 0, [0], [(0, sign, "", 0)])), (1, 0, [0], [(0, "", sign, 0)]))
            self.assertEqual(turned((1, 0, [0], [(0, "x", sign, 0)])), (1, 0, [0], [(0, sign, "x", 0)]))

    def test_kinds_of_the_answer(self):
        for machine in (good(), (1, 0, [], [])):
            answer = turned(machine)
            self.assertIs(type(answer), tuple)
            self.assertEqual(len(answer), 4)
            states, begin, ends, moves = answer
            self.assertEqual([type(part) for part in (states, begin, ends, moves)], [int, int, list, list])
            for move in moves:
                self.assertIs(type(move), tuple)
                self.assertEqual([type(part) for part in move], [int, str, str, int])

    def test_turned_once_more_is_the_machine(self):
        for machine in (good(), (1, 0, [], []), (2, 1, [0, 0], [(1, "a", "b", 0), (0, "", "a", 0)])):
            self.assertEqual(turned(turned(machine)), machine)
        thousand = (2, 1, [0, 0], [(1, "a", "b", 0)] * 1000)
        self.assertTrue(turned(turned(thousand)) == thousand)

    def test_writes_one_text_of_another_just_where_the_machine_writes_the_other_of_the_one(self):
        texts = ["".join(signs) for many in range(4) for signs in product("abcd", repeat=many)]
        mixed = (2, 0, [1], [(0, "a", "b", 0), (0, "", "c", 1), (1, "d", "", 1), (1, "a", "a", 0)])
        found = 0
        for machine in (good(), mixed):
            other = turned(machine)
            for text, writing in product(texts, repeat=2):
                told = writes(machine, text, writing)
                found += told
                self.assertEqual(writes(other, writing, text), told, (text, writing))
        self.assertGreater(found, 20)

    def test_is_defined_in_its_file_with_the_argument_as_told(self):
        self.assertTrue(inspect.isfunction(machines.turned))
        self.assertEqual(turned.__module__, "turnwriter.machines")
        self.assertEqual(list(inspect.signature(turned).parameters), ["machine"])
        self.assertEqual(turned(machine=good()), turned(good()))


class OwnListsTest(unittest.TestCase):
    """Point 1: nothing handed in is changed, lists that are told are the asker's own."""

    def test_what_is_handed_in_is_not_changed(self):
        for machine in (good(), (2, 1, [], []), (2, 1, [1, 0, 1], [(1, "b", "a", 0), (0, "a", "b", 1)])):
            before = copy.deepcopy(machine)
            turned(machine)
            self.assertEqual(machine, before)

    def test_changing_the_answer_does_not_change_the_machine(self):
        for machine in (good(), (1, 0, [], []), (1, 0, [0], [(0, "a", "a", 0)])):
            before = copy.deepcopy(machine)
            answer = turned(machine)
            answer[2].append(0)
            answer[3].insert(0, (0, "", "", 0))
            self.assertEqual(machine, before)
            answer[2].clear()
            answer[3].clear()
            self.assertEqual(machine, before)

    def test_changing_the_answer_does_not_change_a_later_one(self):
        for machine in (good(), (1, 0, [], []), (1, 0, [0], [(0, "a", "a", 0)])):
            first = turned(machine)
            expected = copy.deepcopy(first)
            first[2].append(0)
            first[3].append((0, "", "", 0))
            later = turned(machine)
            self.assertEqual(later, expected)
            self.assertIsNot(later[2], first[2])
            self.assertIsNot(later[3], first[3])

    def test_changing_the_machine_does_not_change_the_answer(self):
        machine = good()
        answer = turned(machine)
        expected = copy.deepcopy(answer)
        machine[2].append(0)
        machine[3].clear()
        self.assertEqual(answer, expected)

    def test_a_machine_changed_in_between_is_looked_at_anew(self):
        machine = (2, 0, [1], [(0, "a", "b", 1)])
        turned(machine)
        machine[3].append((1, "c", "d", 0))
        self.assertEqual(turned(machine)[3], [(0, "b", "a", 1), (1, "d", "c", 0)])
        machine[2].append(2)
        with self.assertRaises(BadMachine):
            turned(machine)


if __name__ == "__main__":
    unittest.main()
