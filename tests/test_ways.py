import inspect
import unittest
from unittest.mock import patch

from tests.oracles import (
    SIGNS, Watched, dense_machine, fewest, good, reads_some, ring, some_machines, texts, told_by, writes,
    wrong_machines,
)
from turnwriter import ways
from turnwriter.errors import BadMachine
from turnwriter.ways import reads, way, writings

# Reads a's; may write an x for each of them, and any number of y's behind them.
LOOSE = (2, 0, [1], [(0, "a", "x", 0), (0, "a", "", 0), (0, "", "y", 1), (1, "", "y", 1)])

# Goes round without reading or writing; there is a short cut from 0 to 4.
ROUND = (
    5, 0, [4],
    [(0, "", "", 1), (1, "", "", 2), (2, "", "", 0), (2, "a", "b", 3), (3, "", "", 4), (0, "", "", 3), (4, "", "", 0)],
)


class AskTest(unittest.TestCase):
    def is_shortest(self, machine, text, writing, many):
        """The way is one of the machine, reads and writes what was asked, and has so many moves."""
        found = way(machine, text, writing)
        self.assertIs(type(found), list, (machine, text, writing))
        self.assertTrue(told_by(machine, found) == (text, writing), (text, writing, found))
        self.assertEqual(len(found), many, (text, writing))

    def none(self, machine, text, writing):
        self.assertIsNone(way(machine, text, writing), (text, writing))


class WayTest(AskTest):
    """Points 3 and 4: a shortest way, or None."""

    def test_the_only_way(self):
        self.assertEqual(way(good(), "a", "b"), [0])
        self.assertEqual(way(good(), "a", "bc"), [0, 1])
        self.assertEqual(way(good(), "", ""), [3])
        self.assertEqual(way(good(), "ada", "bcb"), [0, 1, 2, 0])
        self.assertEqual(way(good(), "d", ""), [3, 2, 3])

    def test_none_where_there_is_none(self):
        for text, writing in (("a", ""), ("", "b"), ("aa", "bb"), ("a", "c"), ("b", "a"), ("dd", "b"), ("A", "b")):
            self.none(good(), text, writing)

    def test_the_empty_list_where_begin_is_an_end(self):
        self.assertEqual(way((1, 0, [0], []), "", ""), [])
        self.assertEqual(way((3, 2, [0, 2, 2], [(2, "", "", 2), (2, "", "", 0)]), "", ""), [])
        self.none((1, 0, [0], []), "a", "")
        self.none((1, 0, [0], []), "", "a")

    def test_begin_that_is_no_end(self):
        self.none((1, 0, [], []), "", "")
        self.none((2, 0, [1], []), "", "")
        self.none((2, 0, [1], [(1, "", "", 1), (1, "", "", 0)]), "", "")

    def test_no_ends(self):
        self.none((2, 0, [], [(0, "a", "b", 1)]), "a", "b")

    def test_starts_in_begin_and_ends_in_an_end(self):
        moves = [(0, "a", "b", 1), (1, "a", "b", 2), (2, "a", "b", 0)]
        self.assertEqual(way((3, 1, [0], moves), "aa", "bb"), [1, 2])
        self.assertEqual(way((3, 2, [0], moves), "a", "b"), [2])
        self.none((3, 0, [0], moves), "aa", "bb")
        self.assertEqual(way((3, 0, [0, 2], moves), "aa", "bb"), [0, 1])

    def test_moves_follow_one_another(self):
        self.none((4, 0, [3], [(0, "a", "", 1), (2, "b", "", 3)]), "ab", "")
        self.none((2, 0, [1], [(1, "a", "", 0)]), "a", "")

    def test_few_moves_where_others_read_and_write_the_same(self):
        moves = [(0, "", "x", 1), (1, "a", "", 2), (2, "", "", 3), (0, "a", "", 4), (4, "", "x", 3), (0, "a", "x", 3)]
        self.assertEqual(way((5, 0, [3], moves), "a", "x"), [5])
        self.is_shortest((5, 0, [3], moves[:5]), "a", "x", 2)
        self.is_shortest((5, 0, [3], moves[:3]), "a", "x", 3)

    def test_few_moves_where_reading_and_writing_go_apart(self):
        apart = (4, 0, [3], [(0, "a", "", 1), (1, "", "", 0), (0, "", "b", 2), (2, "", "", 0), (0, "", "", 3)])
        self.is_shortest(apart, "aa", "bbb", 11)
        quick = (4, 0, [3], apart[3] + [(1, "", "b", 0), (1, "", "b", 2)])
        self.is_shortest(quick, "aa", "bbb", fewest(quick, "aa", "bbb"))

    def test_moves_that_read_and_write_nothing_go_round(self):
        self.is_shortest(ROUND, "", "", 2)
        self.is_shortest(ROUND, "a", "b", 4)
        self.is_shortest(ROUND, "aa", "bb", 9)
        self.none(ROUND, "a", "")
        self.none(ROUND, "", "b")
        still = (1, 0, [0], [(0, "", "", 0), (0, "a", "b", 0), (0, "", "", 0)])
        self.is_shortest(still, "aaa", "bbb", 3)
        self.is_shortest(still, "", "", 0)

    def test_moves_that_only_read_or_only_write_go_round(self):
        self.is_shortest(LOOSE, "aaa", "xxyyyy", 7)
        self.is_shortest(LOOSE, "aaa", "y", 4)
        self.none(LOOSE, "aaa", "xx")
        self.none(LOOSE, "aaa", "xxxxy")

    def test_the_same_move_twice_and_an_end_twice(self):
        machine = (2, 0, [1, 1], [(0, "a", "b", 1)] * 3)
        self.assertIn(way(machine, "a", "b"), ([0], [1], [2]))

    def test_every_sign(self):
        for sign in SIGNS:
            self.assertEqual(way((1, 0, [0], [(0, sign, "", 0)]), sign, ""), [0])
            self.assertEqual(way((1, 0, [0], [(0, "", sign, 0)]), "", sign), [0])
        alike = (1, 0, [0], [(0, sign, sign, 0) for sign in SIGNS])
        whole = "".join(SIGNS)
        self.assertEqual(way(alike, whole, whole), list(range(94)))
        self.none(alike, whole, whole[::-1])

    def test_against_the_plainest_search(self):
        found = none = 0
        for signs, many in (("a", 60), ("ab", 150), ("abc", 60)):
            asked = texts(signs, 3)[:20]
            for machine in some_machines(signs, many, signs):
                for text in asked[::3]:
                    for writing in asked[::2]:
                        told = fewest(machine, text, writing)
                        if told is None:
                            none += 1
                            self.none(machine, text, writing)
                        else:
                            found += 1
                            self.is_shortest(machine, text, writing, told)
        self.assertGreater(found, 500)
        self.assertGreater(none, 1000)

    def test_against_the_plainest_search_for_longer_texts(self):
        found = 0
        for machine in some_machines(3, 60, "ab", 6, 18):
            for text, writing in (("abab" * 3, "ba" * 3), ("a" * 9, "b" * 12), ("ab" * 5, "ab" * 5), ("", "ab" * 4)):
                told = fewest(machine, text, writing)
                if told is None:
                    self.none(machine, text, writing)
                else:
                    found += 1
                    self.is_shortest(machine, text, writing, told)
        self.assertGreater(found, 30)


class GuidedWayTest(WayTest):
    """The same of a search that is taken for a long one from its first spot on."""

    def setUp(self):
        hurried = patch.object(ways, "MOST_UNGUIDED", 0)
        hurried.start()
        self.addCleanup(hurried.stop)


class GreatWayTest(AskTest):
    """Texts of three hundred signs and machines of a hundred states."""

    def test_once_round_and_on(self):
        self.is_shortest(ring(100, "a", "b"), "a" * 300, "b" * 300, 300)
        self.none(ring(100, "a", "b"), "a" * 299, "b" * 299)
        self.none(ring(100, "a", "b"), "a" * 300, "b" * 299)
        self.none(ring(100, "a", "b"), "a" * 300, "b" * 299 + "a")
        self.is_shortest(ring(100, "a", "b", [99]), "a" * 299, "b" * 299, 299)

    def test_round_without_reading_or_writing(self):
        silent = ring(100, "", "")
        self.is_shortest((100, 0, [0], silent[3] + [(0, "a", "b", 0)]), "a" * 300, "b" * 300, 300)
        self.is_shortest((100, 0, [0], silent[3] + [(99, "a", "b", 0)]), "a" * 300, "b" * 300, 30000)
        self.is_shortest((100, 0, [0], silent[3] + [(0, "a", "", 0), (50, "", "b", 50)]), "a" * 300, "b" * 300, 700)
        self.none((100, 0, [0], silent[3] + [(0, "a", "b", 0)]), "a" * 300, "b" * 299)

    def test_thousand_moves(self):
        dense = dense_machine(1, 100, 1000, "ab")
        text, writing = "abb" * 100, "ba" * 150
        found = way(dense, text, writing)
        self.assertTrue(told_by(dense, found) == (text, writing))
        # No way can have fewer moves than there are signs to read.
        self.assertLess(len(found), 310)
        self.none(dense, text, writing[:-1] + "c")

    def test_one_sign_only(self):
        moves = [(at, "a", "", (at + 1) % 100) for at in range(100)]
        moves += [(at, "", "a", (at + 3) % 100) for at in range(100)]
        self.is_shortest((100, 0, [0], moves), "a" * 300, "a" * 300, 600)
        self.is_shortest((100, 0, [50], moves), "a" * 250, "a" * 300, 550)
        self.none((100, 0, [1], moves), "a" * 300, "a" * 300)

    def test_none_in_spite_of_very_many_beginnings(self):
        odd = [(at, read, write, (at + 1) % 30) for at in range(30) for read, write in (("a", ""), ("", "a"))]
        odd += [(at, "", "", (at + step) % 30) for at in range(30) for step in (2, 4, 6)]
        odd += [(at, "a", "a", (at + step) % 30) for at in range(30) for step in (2, 8)]
        self.none((30, 0, [0], odd), "a" * 220, "a" * 221)

    def test_a_longer_text_than_three_hundred_signs(self):
        self.is_shortest(ring(97, "a", ""), "a" * 9700, "", 9700)
        self.is_shortest(ring(97, "", "b"), "", "b" * 9700, 9700)
        self.none(ring(97, "", "b"), "", "b" * 9701)


class ReadsTest(unittest.TestCase):
    """Point 4: whether there is any writing of a text."""

    def test_a_text_and_no_text(self):
        for text in ("", "a", "ad", "ada", "d", "adda", "dad"):
            self.assertIs(reads(good(), text), True, text)
        for text in ("aa", "b", "aad", "adaa", "A", "ac"):
            self.assertIs(reads(good(), text), False, text)

    def test_nothing_to_read(self):
        self.assertIs(reads((1, 0, [0], []), ""), True)
        self.assertIs(reads((1, 0, [], []), ""), False)
        self.assertIs(reads((2, 0, [1], [(1, "", "", 0)]), ""), False)
        self.assertIs(reads((2, 0, [1], [(0, "", "x", 1)]), ""), True)
        self.assertIs(reads((1, 0, [0], []), "a"), False)

    def test_writing_without_end(self):
        for text in ("", "a", "aaaa", "a" * 300):
            self.assertIs(reads(LOOSE, text), True)
        for text in ("b", "ab", "a" * 299 + "x"):
            self.assertIs(reads(LOOSE, text), False)
        stuck = (2, 0, [1], [(0, "", "x", 0), (0, "a", "", 1)])
        self.assertIs(reads(stuck, ""), False)
        self.assertIs(reads(stuck, "a"), True)
        self.assertIs(reads(stuck, "aa"), False)

    def test_going_round_in_silence(self):
        for text, told in (("", True), ("a", True), ("aa", True), ("b", False), ("ab", False)):
            self.assertIs(reads(ROUND, text), told)

    def test_against_the_plainest_search(self):
        seen = {True: 0, False: 0}
        for machine in some_machines(5, 200, "ab"):
            for text in texts("ab", 3):
                told = reads_some(machine, text)
                seen[told] += 1
                self.assertIs(reads(machine, text), told, (machine, text))
        self.assertGreater(min(seen.values()), 300)

    def test_great_ones(self):
        self.assertIs(reads(ring(100, "a", "b"), "a" * 300), True)
        self.assertIs(reads(ring(100, "a", "b"), "a" * 299), False)
        self.assertIs(reads(dense_machine(1, 100, 1000, "ab"), "ab" * 150), True)
        self.assertIs(reads(dense_machine(1, 100, 1000, "ab"), "ab" * 149 + "ac"), False)
        self.assertIs(reads(ring(99, "a", ""), "a" * 9900), True)
        self.assertIs(reads(ring(99, "a", ""), "a" * 9901), False)


class WritingsTest(unittest.TestCase):
    """Point 4: all writings of a text, up to so many signs."""

    def test_all_of_them_in_order(self):
        self.assertEqual(writings(LOOSE, "aa", 3), ["xxy", "xy", "xyy", "y", "yy", "yyy"])
        self.assertEqual(writings(LOOSE, "aa", 2), ["xy", "y", "yy"])
        self.assertEqual(writings(LOOSE, "aa", 1), ["y"])
        self.assertEqual(writings(LOOSE, "b", 5), [])

    def test_most_nothing(self):
        self.assertEqual(writings(LOOSE, "aa", 0), [])
        self.assertEqual(writings(good(), "", 0), [""])
        self.assertEqual(writings(good(), "d", 0), [""])
        self.assertEqual(writings(good(), "a", 0), [])
        self.assertEqual(writings((1, 0, [0], []), "", 0), [""])
        self.assertEqual(writings((1, 0, [], []), "", 0), [])
        self.assertEqual(writings((1, 0, [0], []), "a", 0), [])

    def test_no_more_signs_than_most(self):
        for most in range(12):
            told = writings((1, 0, [0], [(0, "", "z", 0)]), "", most)
            self.assertEqual(told, ["z" * many for many in range(most + 1)])

    def test_less_than_nothing(self):
        self.assertEqual(writings(good(), "", -1), [])

    def test_far_more_than_there_is_to_write(self):
        self.assertEqual(writings(good(), "ada", 10 ** 9), ["bcb", "bcbc"])
        self.assertEqual(writings(ROUND, "aa", 10 ** 30), ["bb"])
        self.assertEqual(writings((2, 0, [1], [(0, "", "x", 0)]), "", 10 ** 9), [])

    def test_each_once(self):
        many_ways = (3, 0, [1, 2, 1], [(0, "a", "x", 1), (0, "a", "x", 2), (0, "", "x", 2), (2, "a", "", 1)] * 2)
        self.assertEqual(writings(many_ways, "a", 4), ["x"])

    def test_in_the_order_of_python(self):
        loop = (1, 0, [0], [(0, "", sign, 0) for sign in "b Z~a0"])
        expected = sorted(texts("b Z~a0", 3))
        self.assertEqual(writings(loop, "", 3), expected)
        every = (2, 0, [1], [(0, "", sign, 1) for sign in reversed(SIGNS)])
        self.assertEqual(writings(every, "", 1), SIGNS)

    def test_going_round_in_silence(self):
        self.assertEqual(writings(ROUND, "", 3), [""])
        self.assertEqual(writings(ROUND, "aa", 3), ["bb"])
        self.assertEqual(writings(ROUND, "aa", 1), [])

    def test_what_only_later_turns_out_too_long(self):
        long = (7, 0, [6, 1], [(at, "", "xy"[at % 2], at + 1) for at in range(6)] + [(0, "", "y", 0)])
        self.assertEqual(writings(long, "", 5), sorted("y" * many + "x" for many in range(5)))
        self.assertEqual(writings(long, "", 6)[0], "x")
        self.assertIn("xyxyxy", writings(long, "", 6))
        wild = (41, 0, [40], [(at, "", sign, at + 1) for at in range(40) for sign in "ab"])
        self.assertEqual(writings(wild, "", 39), [])

    def test_against_the_plainest_search(self):
        found = 0
        for signs, many in (("a", 40), ("ab", 100), ("abc", 30)):
            asked = texts(signs, 3)
            for machine in some_machines(signs * 2, many, signs):
                for text in asked[:8]:
                    every = sorted(told for told in asked if writes(machine, text, told))
                    for most in range(4):
                        expected = [told for told in every if len(told) <= most]
                        found += len(expected)
                        self.assertEqual(writings(machine, text, most), expected, (machine, text, most))
        self.assertGreater(found, 2000)

    def test_great_ones(self):
        self.assertTrue(writings(ring(100, "a", "b"), "a" * 300, 300) == ["b" * 300])
        self.assertEqual(writings(ring(100, "a", "b"), "a" * 300, 299), [])
        dense = dense_machine(1, 100, 1000, "ab")
        told = writings(dense, "ab" * 150, 8)
        self.assertTrue(told == sorted(set(told)))
        self.assertTrue(set(told) <= set(texts("ab", 8)))
        for writing in ("", "a", "abab", "bbbbbbbb", "abbaabba"):
            self.assertEqual(writing in told, way(dense, "ab" * 150, writing) is not None)
        parts = (1, 0, [0], [(0, "a", "", 0), (0, "b", "", 0), (0, "a", "a", 0), (0, "b", "b", 0)])
        self.assertTrue(writings(parts, "ab" * 150, 10) == sorted(texts("ab", 10)))


class AlikeTest(unittest.TestCase):
    """Points 1 and 2, and the interface, for each function of the file."""

    def ask(self, machine):
        return (lambda: way(machine, "a", "b"), lambda: reads(machine, "a"), lambda: writings(machine, "a", 2))

    def test_each_wrong_machine_is_refused(self):
        for machine in wrong_machines():
            for call in self.ask(machine):
                with self.assertRaises(BadMachine) as caught:
                    call()
                self.assertIs(type(caught.exception), BadMachine)

    def test_ahead_of_all_else(self):
        # No way could use what is wrong here, and there is nothing to look for.
        wrong = (3, 0, [], [(1, "ab", "", 1)])
        for call in (lambda: way(wrong, "", ""), lambda: reads(wrong, ""), lambda: writings(wrong, "", 0)):
            self.assertRaises(BadMachine, call)
        self.assertRaises(BadMachine, writings, wrong, "", -1)

    def test_nothing_handed_in_is_changed(self):
        for machine in (good(), LOOSE, ROUND, (2, 0, [1, 1, 0], [(0, "a", "b", 1)])):
            watched = Watched(machine)
            for call in self.ask(machine):
                call()
                self.assertFalse(watched.is_changed())

    def test_lists_are_new_ones(self):
        for machine in (good(), LOOSE, (1, 0, [0], [(0, "a", "b", 0)])):
            ask_way, _, ask_writings = self.ask(machine)
            for call in (ask_way, ask_writings, lambda: way(machine, "", "")):
                watched, first = Watched(machine), call()
                if first is not None:
                    expected = list(first)
                    first.append(0)
                    first.reverse()
                    self.assertFalse(watched.is_changed())
                    self.assertIsNot(call(), first)
                    self.assertEqual(call(), expected)

    def test_a_machine_changed_in_between_is_looked_at_anew(self):
        machine = (2, 0, [1], [(0, "a", "b", 1)])
        self.assertEqual((way(machine, "a", "c"), writings(machine, "a", 1)), (None, ["b"]))
        self.assertIs(reads(machine, "c"), False)
        machine[3].append((0, "a", "c", 1))
        machine[3].append((0, "c", "", 1))
        self.assertEqual((way(machine, "a", "c"), writings(machine, "a", 1)), ([1], ["b", "c"]))
        self.assertIs(reads(machine, "c"), True)
        machine[2].append(2)
        for call in self.ask(machine):
            self.assertRaises(BadMachine, call)

    def test_defined_in_its_file_with_the_arguments_as_told(self):
        told = {way: ["machine", "text", "writing"], reads: ["machine", "text"], writings: ["machine", "text", "most"]}
        for function, arguments in told.items():
            self.assertEqual(function.__module__, "turnwriter.ways")
            self.assertEqual(list(inspect.signature(function).parameters), arguments)
        self.assertEqual(way(machine=good(), text="a", writing="b"), [0])
        self.assertIs(reads(machine=good(), text="a"), True)
        self.assertEqual(writings(machine=good(), text="a", most=1), ["b"])


if __name__ == "__main__":
    unittest.main()
