import inspect
import unittest
from unittest.mock import patch

from tests.oracles import (
    Watched, both_write, dense_machine, good, ring, some_machines, texts, told_by, writes, wrong_machines,
)
from turnwriter import joining
from turnwriter.errors import BadMachine, TooGreat
from turnwriter.joining import between, joined
from turnwriter.machines import turned
from turnwriter.ways import reads, way, writings

# Writes two x's for each a; reads three x's for each b.
TWICE = (2, 0, [0], [(0, "a", "x", 1), (1, "", "x", 0)])
THRICE = (3, 0, [0], [(0, "x", "", 1), (1, "x", "", 2), (2, "x", "b", 0)])


def of_size(states, moves):
    """A machine that goes round, with so many states and moves."""
    return (states, 0, [0], [(at % states, "a", "a", (at + 1) % states) for at in range(moves)])


class JoinedTest(unittest.TestCase):
    """Point 6: what the joined machine writes."""

    def is_right(self, one, other, asked):
        """The joined machine writes what the other writes of what the one writes; tells how much that was."""
        machine = joined(one, other)
        self.assertLessEqual(machine[0], one[0] * other[0])
        # It is a machine itself: turned refuses any other.
        turned(machine)
        found = 0
        for text in asked:
            for writing in asked:
                told = both_write(one, other, text, writing)
                found += told
                self.assertEqual(writes(machine, text, writing), told, (one, other, text, writing))
        return found

    def test_sign_by_sign(self):
        shout = (1, 0, [0], [(0, "a", "A", 0), (0, "b", "B", 0)])
        turn = (1, 0, [0], [(0, "A", "b", 0), (0, "B", "a", 0)])
        machine = joined(shout, turn)
        self.assertEqual(writings(machine, "abba", 9), ["baab"])
        self.assertEqual(writings(machine, "ABBA", 9), [])
        self.assertEqual(writings(joined(turn, shout), "AB", 9), ["BA"])

    def test_the_first_stands_ahead(self):
        one = (1, 0, [0], [(0, "a", "b", 0)])
        other = (1, 0, [0], [(0, "b", "c", 0)])
        self.assertEqual(writings(joined(one, other), "aa", 9), ["cc"])
        self.assertEqual(writings(joined(other, one), "bb", 9), [])

    def test_more_and_fewer_signs(self):
        machine = joined(TWICE, THRICE)
        for many in range(10):
            expected = ["b" * (2 * many // 3)] if many % 3 == 0 else []
            self.assertEqual(writings(machine, "a" * many, 20), expected)

    def test_moves_that_read_nothing_or_write_nothing(self):
        writer = (2, 0, [1], [(0, "", "x", 1), (1, "a", "", 1), (1, "", "", 0)])
        reader = (2, 0, [1], [(0, "x", "", 1), (1, "", "b", 1), (1, "", "", 0), (0, "", "c", 0)])
        self.assertGreater(self.is_right(writer, reader, texts("abc", 2)), 20)
        self.assertGreater(self.is_right(writer, turned(writer), texts("a", 4)), 10)

    def test_nothing_read_is_not_nothing_written(self):
        # What writes nothing and what reads nothing go each by itself, also where only one of both is there.
        silent = (2, 0, [1], [(0, "a", "", 1)])
        deaf = (2, 0, [1], [(0, "", "b", 1)])
        still = (1, 0, [0], [])
        self.assertEqual(writings(joined(silent, deaf), "a", 9), ["b"])
        self.assertEqual(writings(joined(silent, still), "a", 9), [""])
        self.assertEqual(writings(joined(still, deaf), "", 9), ["b"])
        self.assertEqual(writings(joined(deaf, silent), "", 9), [])

    def test_begins_and_ends_of_both(self):
        one = (3, 1, [2, 0, 2], [(1, "a", "x", 2), (1, "b", "x", 0), (0, "c", "", 1)])
        other = (3, 2, [0, 1], [(2, "x", "d", 0), (2, "x", "e", 1), (1, "", "f", 2)])
        self.assertGreater(self.is_right(one, other, texts("abcdef", 2)), 3)
        self.assertEqual(writings(joined((1, 0, [], []), (1, 0, [0], [])), "", 3), [])
        self.assertEqual(writings(joined((1, 0, [0], []), (1, 0, [], [])), "", 3), [])
        self.assertEqual(writings(joined((1, 0, [0], []), (1, 0, [0], [])), "", 3), [""])

    def test_number_of_states(self):
        for states in range(1, 11):
            for others in range(1, 11):
                machine = joined(of_size(states, 1), of_size(others, 1))
                turned(machine)
                self.assertLessEqual(machine[0], states * others)

    def test_against_the_plainest_search(self):
        found = 0
        for signs in ("a", "ab", "abc"):
            machines = some_machines(signs, 70, signs)
            for one, other in zip(machines, machines[1:]):
                found += self.is_right(one, other, texts(signs, 3)[:12])
        self.assertGreater(found, 500)

    def test_kinds_of_the_answer(self):
        machine = joined(good(), good())
        self.assertEqual([type(part) for part in machine], [int, int, list, list])
        self.assertIs(type(machine), tuple)
        self.assertEqual({type(end) for end in machine[2]}, {int})
        for move in machine[3]:
            self.assertIs(type(move), tuple)
            self.assertEqual([type(part) for part in move], [int, str, str, int])

    def test_machines_with_very_many_ends(self):
        ends = [0, 1] * 1000
        one = (2, 0, ends, [(0, "a", "x", 1)])
        other = (2, 0, ends, [(0, "x", "b", 1)])
        self.assertEqual(writings(joined(one, other), "a", 9), ["b"])


class TooGreatTest(unittest.TestCase):
    """Point 6: what is too great to be joined, just at both bounds."""

    def taken(self, one, other):
        machine = joined(one, other)
        self.assertLessEqual(machine[0], one[0] * other[0])
        turned(machine)

    def refused(self, one, other):
        with self.assertRaises(TooGreat) as caught:
            joined(one, other)
        self.assertIs(type(caught.exception), TooGreat)

    def test_states(self):
        for states, others in ((10, 10), (1, 100), (100, 1), (25, 4), (9, 11), (33, 3)):
            self.taken(of_size(states, 0), of_size(others, 0))
        # A hundred and one is a prime, so a hundred and two is the next that two machines can have.
        for states, others in ((51, 2), (34, 3), (6, 17), (3, 34), (2, 51), (11, 10), (100, 2), (100, 100)):
            self.refused(of_size(states, 0), of_size(others, 0))

    def test_moves_and_states(self):
        at_bound = ((5, 20, 4, 36), (1, 0, 1, 999), (1, 999, 1, 0), (10, 15, 10, 30), (10, 0, 10, 90), (2, 6, 50, 75))
        for states, moves, others, other_moves in at_bound:
            self.assertEqual((states + moves) * (others + other_moves), 1000)
            self.taken(of_size(states, moves), of_size(others, other_moves))
        below = ((5, 22, 7, 30), (1, 0, 1, 998), (9, 18, 11, 26), (1, 998, 1, 0))
        for states, moves, others, other_moves in below:
            self.assertEqual((states + moves) * (others + other_moves), 999)
            self.taken(of_size(states, moves), of_size(others, other_moves))
        above = ((7, 70, 3, 10), (1, 0, 1, 1000), (1, 1000, 1, 0), (10, 1, 10, 81), (13, 0, 7, 70), (1, 10, 91, 0))
        for states, moves, others, other_moves in above:
            self.assertEqual((states + moves) * (others + other_moves), 1001)
            self.refused(of_size(states, moves), of_size(others, other_moves))

    def test_far_too_great(self):
        self.refused(of_size(100, 1000), of_size(100, 1000))
        self.refused(of_size(1, 1000), of_size(1, 1000))
        self.refused(of_size(100, 0), of_size(1, 1000))

    def test_most_moves_that_can_be_joined(self):
        one = (1, 0, [0], [(0, "a", "", 0)] * 30)
        other = (1, 0, [0], [(0, "", "b", 0)] * 31)
        self.taken(one, other)
        self.assertEqual(writings(joined(one, other), "a", 2), ["", "b", "bb"])
        self.taken((1, 0, [0], [(0, "a", "x", 0)] * 24), (1, 0, [0], [(0, "x", "b", 0)] * 39))

    def test_refused_by_joined_alone(self):
        self.refused(ring(100, "a", "x"), ring(99, "x", "b"))
        self.assertIsNone(between(ring(100, "a", "x"), ring(99, "x", "b"), "a", "b"))
        self.assertEqual(between(ring(100, "a", "x", [1]), ring(99, "x", "b", [1]), "a", "b"), "x")


class AskTest(unittest.TestCase):
    def is_between(self, one, other, text, writing):
        found = between(one, other, text, writing)
        self.assertIs(type(found), str, (text, writing))
        for machine, reading, written in ((one, text, found), (other, found, writing)):
            told = way(machine, reading, written)
            self.assertIsNotNone(told, (text, writing))
            self.assertTrue(told_by(machine, told) == (reading, written), (text, writing))
        return found

    def none(self, one, other, text, writing):
        self.assertIsNone(between(one, other, text, writing), (text, writing))


class BetweenTest(AskTest):
    """Point 6: a text between."""

    def test_the_only_one(self):
        self.assertEqual(between(good(), turned(good()), "a", "a"), "b")
        self.assertEqual(between(TWICE, THRICE, "aaa", "bb"), "xxxxxx")
        self.assertEqual(between(turned(THRICE), turned(TWICE), "bb", "aaa"), "xxxxxx")

    def test_none_where_there_is_none(self):
        self.none(TWICE, THRICE, "aaa", "b")
        self.none(TWICE, THRICE, "aa", "b")
        self.none(TWICE, THRICE, "b", "a")
        self.none(THRICE, TWICE, "aaa", "bb")
        self.none((1, 0, [], []), (1, 0, [0], []), "", "")
        self.none((1, 0, [0], []), (1, 0, [], []), "", "")

    def test_each_of_both_can_but_not_together(self):
        one = (1, 0, [0], [(0, "a", "x", 0)])
        other = (1, 0, [0], [(0, "y", "b", 0)])
        self.assertTrue(reads(one, "a") and way(other, "y", "b") == [0])
        self.none(one, other, "a", "b")
        self.assertEqual(between(one, other, "", ""), "")
        late = (3, 0, [2], [(0, "a", "x", 1), (1, "", "y", 2), (1, "", "x", 2)])
        self.none(late, (3, 0, [2], [(0, "y", "b", 1), (1, "x", "", 2)]), "a", "b")
        self.assertEqual(between(late, (3, 0, [2], [(0, "x", "b", 1), (1, "y", "", 2)]), "a", "b"), "xy")

    def test_an_empty_text_between(self):
        self.assertEqual(between((1, 0, [0], []), (1, 0, [0], []), "", ""), "")
        eats = (1, 0, [0], [(0, "a", "", 0)])
        gives = (1, 0, [0], [(0, "", "b", 0)])
        self.assertEqual(between(eats, gives, "aaa", "bb"), "")
        self.none(gives, eats, "aaa", "bb")
        self.is_between(turned(eats), turned(gives), "", "")

    def test_what_writes_without_end(self):
        endless = (1, 0, [0], [(0, "", "x", 0), (0, "", "", 0)])
        self.assertEqual(between(endless, THRICE, "", "bbb"), "x" * 9)
        self.none(endless, THRICE, "", "bba")
        self.none(endless, THRICE, "a", "bb")
        self.is_between(endless, turned(endless), "", "")
        self.none((2, 0, [1], [(0, "", "x", 0)]), (1, 0, [0], [(0, "x", "", 0)]), "", "")

    def test_longer_than_both(self):
        self.assertEqual(between(ring(7, "", "x"), ring(5, "x", "", [3]), "", ""), "x" * 28)
        self.assertEqual(between(ring(10, "", "x"), ring(9, "x", "", [8]), "", ""), "x" * 80)
        chain = (100, 0, [99], [(at, "x", "", at + 1) for at in range(99)])
        self.assertEqual(between((1, 0, [0], [(0, "", "x", 0)]), chain, "", ""), "x" * 99)

    def test_machines_too_great_to_be_joined(self):
        one, other = ring(100, "", "x"), ring(99, "x", "", [50])
        self.assertRaises(TooGreat, joined, one, other)
        self.assertTrue(between(one, other, "", "") == "x" * 5000)
        one = (100, 0, [0], ring(100, "", "x")[3][:99] + [(99, "a", "x", 0)])
        other = (99, 0, [0], ring(99, "x", "")[3][:98] + [(98, "x", "b", 0)])
        self.assertTrue(self.is_between(one, other, "a" * 99, "b" * 100) == "x" * 9900)
        self.none(one, other, "a" * 99, "b" * 99)
        self.none(one, other, "a" * 99, "b" * 101)
        self.none(one, (98, 0, [1], ring(98, "x", "b")[3]), "a" * 98, "b" * 9800)

    def test_a_beginning_that_leads_nowhere(self):
        # By the first move all is read and written soon, but then the number of x's is never even.
        odd = [(0, "a", "", 1), (1, "a", "", 1), (1, "", "x", 3)]
        even = [(0, "", "", 2), (2, "a", "x", 4), (4, "", "x", 2), (2, "", "", 3)]
        one = (5, 0, [3], odd + even)
        other = (2, 0, [0], [(0, "x", "", 1), (1, "x", "", 0), (0, "", "b", 0), (1, "", "b", 1)])
        for many in range(5):
            self.assertEqual(self.is_between(one, other, "a" * many, "bbb"), "xx" * many)
        self.none(one, other, "b", "bbb")

    def test_against_the_plainest_search(self):
        found = none = 0
        for signs in ("a", "ab", "abc"):
            machines = some_machines(signs + signs, 100, signs)
            asked = texts(signs, 3)[:14:2]
            for one, other in zip(machines, machines[1:]):
                for text in asked:
                    for writing in asked:
                        if both_write(one, other, text, writing):
                            found += 1
                            self.is_between(one, other, text, writing)
                        else:
                            none += 1
                            self.none(one, other, text, writing)
        self.assertGreater(found, 300)
        self.assertGreater(none, 300)


class GuidedBetweenTest(BetweenTest):
    """The same of a search that is taken for a long one from its first spot on."""

    def setUp(self):
        hurried = patch.object(joining, "MOST_UNGUIDED", 0)
        hurried.start()
        self.addCleanup(hurried.stop)


class GreatBetweenTest(AskTest):
    """Texts of three hundred signs and machines of a hundred states."""

    def test_three_hundred_signs_and_thousand_moves(self):
        one, other = dense_machine(1, 100, 1000, "ab"), dense_machine(2, 100, 1000, "ab")
        self.is_between(one, other, "ab" * 150, "bba" * 100)
        self.none(one, other, "ab" * 150, "bba" * 99 + "bbc")
        self.none(one, other, "ab" * 149 + "ac", "bba" * 100)

    def test_none_in_spite_of_very_many_beginnings(self):
        one = (22, 0, [0], ring(22, "a", "x")[3] + ring(22, "", "x")[3])
        other = (20, 0, [1], ring(20, "x", "")[3] + ring(20, "x", "b")[3])
        self.none(one, other, "a" * 100, "b" * 100)
        self.is_between(one, (20, 0, [2], other[3]), "a" * 100, "b" * 100)


class AlikeTest(unittest.TestCase):
    """Points 1 and 2, and the interface, for each function of the file."""

    def ask(self, one, other):
        return (lambda: joined(one, other), lambda: between(one, other, "a", "b"))

    def test_each_wrong_machine_is_refused_in_both_places(self):
        for machine in wrong_machines():
            for one, other in ((machine, good()), (good(), machine), (machine, machine)):
                for call in self.ask(one, other):
                    with self.assertRaises(BadMachine) as caught:
                        call()
                    self.assertIs(type(caught.exception), BadMachine)

    def test_ahead_of_too_great(self):
        great = of_size(100, 1000)
        for machine in wrong_machines():
            for one, other in ((machine, great), (great, machine)):
                for call in self.ask(one, other):
                    self.assertRaises(BadMachine, call)

    def test_the_first_one_first(self):
        # What stands in the second place is no machine at all, so looking at it would fail in another way.
        for machine in wrong_machines():
            for call in self.ask(machine, None):
                self.assertRaises(BadMachine, call)

    def test_ahead_of_none(self):
        wrong = (3, 0, [], [(1, "ab", "", 1)])
        for one, other in ((wrong, (1, 0, [], [])), ((1, 0, [], []), wrong)):
            self.assertRaises(BadMachine, between, one, other, "zz", "")
            self.assertRaises(BadMachine, joined, one, other)

    def test_nothing_handed_in_is_changed(self):
        for one, other in ((good(), good()), (TWICE, THRICE), (good(), turned(good()))):
            watched = Watched(one, other)
            for call in self.ask(one, other):
                call()
                self.assertFalse(watched.is_changed())

    def test_lists_are_new_ones(self):
        for one, other in ((good(), good()), ((1, 0, [0], []), (1, 0, [0], [])), (TWICE, THRICE)):
            watched, first = Watched(one, other), joined(one, other)
            expected = Watched(*first).before
            first[2].append(0)
            first[3].append((0, "", "", 0))
            self.assertFalse(watched.is_changed())
            later = joined(one, other)
            self.assertEqual(later, expected)
            self.assertIsNot(later[2], first[2])
            self.assertIsNot(later[3], first[3])

    def test_defined_in_its_file_with_the_arguments_as_told(self):
        told = {joined: ["one", "other"], between: ["one", "other", "text", "writing"]}
        for function, arguments in told.items():
            self.assertEqual(function.__module__, "turnwriter.joining")
            self.assertEqual(list(inspect.signature(function).parameters), arguments)
        self.assertEqual(joined(one=TWICE, other=THRICE), joined(TWICE, THRICE))
        self.assertEqual(between(one=TWICE, other=THRICE, text="aaa", writing="bb"), "xxxxxx")


if __name__ == "__main__":
    unittest.main()
