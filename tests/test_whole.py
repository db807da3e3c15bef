import unittest

from tests.oracles import some_machines, texts
from turnwriter.errors import TooGreat, Twofold
from turnwriter.joining import between, joined
from turnwriter.machines import turned
from turnwriter.pairs import ahead, twofold
from turnwriter.ways import reads, way, writings

MOST = 3


class WholeTest(unittest.TestCase):
    """How the functions fit together."""

    def machines(self):
        for signs, many in (("a", 40), ("ab", 80), ("abc", 30)):
            for machine in some_machines(signs * 5, many, signs):
                yield texts(signs, MOST)[:16], machine

    def neighbours(self):
        told = list(self.machines())
        for (asked, one), (_, other) in zip(told, told[1:]):
            yield asked, one, other

    def test_the_turned_machine_against_the_machine(self):
        found = 0
        for asked, machine in self.machines():
            other_way = turned(machine)
            for text in asked:
                for writing in writings(machine, text, MOST):
                    found += 1
                    self.assertIn(text, writings(other_way, writing, MOST))
                    back = way(other_way, writing, text)
                    self.assertEqual(len(back), len(way(machine, text, writing)))
                for writing in writings(other_way, text, MOST):
                    self.assertIn(text, writings(machine, writing, MOST))
                self.assertTrue(reads(other_way, text) or not writings(other_way, text, MOST))
        self.assertGreater(found, 300)

    def test_way_and_reads_against_writings(self):
        for asked, machine in self.machines():
            for text in asked:
                told = writings(machine, text, MOST)
                ways = {writing: way(machine, text, writing) for writing in asked_of(machine)}
                self.assertEqual(told, sorted(writing for writing in ways if ways[writing] is not None))
                if told:
                    self.assertIs(reads(machine, text), True)
                if not reads(machine, text):
                    self.assertEqual(told, [])

    def test_joined_against_writings_and_between(self):
        found = 0
        for asked, one, other in self.neighbours():
            machine = joined(one, other)
            for text in asked[:8]:
                told = writings(machine, text, MOST)
                for passed in writings(one, text, MOST):
                    for writing in writings(other, passed, MOST):
                        found += 1
                        self.assertIn(writing, told)
                for writing in asked:
                    passed = between(one, other, text, writing)
                    self.assertEqual(passed is not None, writing in told)
                    self.assertEqual(way(machine, text, writing) is not None, writing in told)
                    if passed is not None:
                        self.assertIn(passed, writings(one, text, len(passed)))
                        self.assertIn(writing, writings(other, passed, MOST))
                        self.assertIsNotNone(way(one, text, passed))
                        self.assertTrue(reads(other, passed))
        self.assertGreater(found, 300)

    def test_between_the_other_way_round(self):
        for asked, one, other in self.neighbours():
            for text in asked[:8]:
                for writing in asked[:8]:
                    there = between(one, other, text, writing)
                    back = between(turned(other), turned(one), writing, text)
                    self.assertEqual(there is None, back is None)

    def test_twofold_against_ahead_and_writings(self):
        seen = {True: 0, False: 0}
        for asked, machine in self.machines():
            found = twofold(machine)
            seen[found is not None] += 1
            if found is None:
                told = ahead(machine)
                self.assertTrue(all(one == "" or other == "" for _, _, one, other in told))
                self.assertEqual(told, sorted((second, first, other, one) for first, second, one, other in told))
                for text in asked:
                    self.assertLessEqual(len(writings(machine, text, MOST + 2)), 1)
            else:
                self.assertRaises(Twofold, ahead, machine)
                self.assertGreater(len(writings(machine, found[0], len(found[1]) + len(found[2]))), 1)
        self.assertGreater(min(seen.values()), 20)

    def test_a_machine_behind_its_turned_one(self):
        # What is read back is the text itself at least, and nothing else where the turned machine is not twofold.
        for asked, machine in self.machines():
            try:
                back = joined(machine, turned(machine))
            except TooGreat:
                continue
            for text in asked:
                told = writings(back, text, MOST)
                self.assertEqual(text in told, reads(machine, text))
                if twofold(turned(machine)) is None:
                    self.assertLessEqual(len(told), 1)


def asked_of(machine):
    """All texts of at most so many signs that a machine could write."""
    return texts(sorted({write for _, _, write, _ in machine[3] if write}), MOST)


if __name__ == "__main__":
    unittest.main()
