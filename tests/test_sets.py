"""Calls 3 and 4, many and sets: the sets of a kind, and how many there are."""

import unittest

from helper import CHAIN, FOES, HELPED, SELF_MADE, TRIO, Slow, made_up_cases, text, told_and_made_up
from whatstands.moot import kinds, many, sets

HIGHEST = 4294967295
# By kind, the part of the sum that kinds tells of such a set.
PARTS = (2, 4, 8, 16)


def every_set(kind, t):
    return sets(kind, 0, HIGHEST, t)


class SetsTest(unittest.TestCase):
    def check(self, lines, *expected):
        """What there is of each kind, from admissible to stable."""
        t = text(*lines)
        for kind, found in enumerate(expected):
            with self.subTest(lines=lines, kind=kind):
                self.assertEqual(every_set(kind, t), [0] + found)
                self.assertEqual(many(kind, t), [0, len(found)])

    def test_empty_text(self):
        self.check((), [0], [0], [0], [0])

    def test_laws_alone(self):
        self.check(("law a: -> p", "law b: p -> ~q"), [0], [0], [0], [0])

    def test_rules_that_nothing_strikes(self):
        self.check(("rule a: => p",), [0, 1], [1], [1], [1])
        self.check(("rule a: => p", "rule b: p => q"), [0, 1, 2, 3], [3], [3], [3])

    def test_two_that_strike_one_another(self):
        self.check(FOES, [0, 1, 2], [0, 1, 2], [1, 2], [1, 2])

    def test_a_third_stays_out_of_it(self):
        self.check(FOES + ("rule c: => q",), [0, 1, 2, 4, 5, 6], [4, 5, 6], [5, 6], [5, 6])

    def test_weight_settles_it(self):
        self.check(FOES + ("weigh a > b",), [0, 1], [1], [1], [1])
        self.check(FOES + ("weigh b > a",), [0, 2], [2], [2], [2])

    def test_laws_against_a_rule(self):
        self.check(("law k: -> ~p", "rule a: => p"), [0], [0], [0], [0])
        self.check(("rule a: => ~a", "rule b: => a"), [0, 2], [2], [2], [2])

    def test_chain(self):
        # r5 goes against r4 and so on: what has r3 needs r5, what has r1 needs r3.
        self.check(CHAIN, [0, 16, 20, 21], [21], [21], [21])

    def test_three_of_which_two_go_together(self):
        self.check(TRIO, [0, 3, 5, 6], [0, 3, 5, 6], [3, 5, 6], [3, 5, 6])
        self.check(TRIO + ("weigh a > c",), [0, 1, 3, 5], [1, 3, 5], [3, 5], [3, 5])

    def test_no_smaller_one_defends_itself(self):
        self.check(SELF_MADE, [0, 1, 2, 8, 9, 10], [0, 8, 9, 10], [9, 10], [9, 10])
        self.check(HELPED, [0, 1, 2, 9, 10], [0, 9, 10], [9, 10], [9, 10])

    def test_rules_in_another_order_than_their_names(self):
        self.check(("rule b: => ~p", "rule a: => p", "weigh a > b"), [0, 1], [1], [1], [1])

    def test_just_those_that_kinds_tells(self):
        for t in told_and_made_up(120, 5):
            rules = bytes(t).count(b"rule ")
            sums = [kinds(some, t)[1] for some in range(1 << rules)]
            for kind, part in enumerate(PARTS):
                with self.subTest(text=bytes(t), kind=kind):
                    found = [some for some, total in enumerate(sums) if total & part]
                    self.assertEqual(every_set(kind, t), [0] + found)
                    self.assertEqual(many(kind, t), [0, len(found)])

    def test_against_the_second_reading(self):
        for t in made_up_cases(200, 5):
            read = Slow(t)
            for kind in range(4):
                with self.subTest(text=bytes(t), kind=kind):
                    found = read.all_of_kind(kind)
                    self.assertEqual(every_set(kind, t), [0] + found)
                    self.assertEqual(many(kind, t), [0, len(found)])


class PartTest(unittest.TestCase):
    """Of all sets of a kind, those from a start on, at most so many."""

    t = text(*FOES, "rule c: => q")

    def check(self, expected, start, most):
        self.assertEqual(sets(0, start, most, self.t), [0] + expected)

    def test_start(self):
        self.check([0, 1, 2, 4, 5, 6], 0, HIGHEST)
        self.check([2, 4, 5, 6], 2, HIGHEST)
        self.check([6], 5, HIGHEST)
        self.check([], 6, HIGHEST)
        self.check([], 7, HIGHEST)
        self.check([], HIGHEST, HIGHEST)

    def test_most(self):
        self.check([], 0, 0)
        self.check([0], 0, 1)
        self.check([0, 1, 2, 4, 5], 0, 5)
        self.check([0, 1, 2, 4, 5, 6], 0, 6)
        self.check([0, 1, 2, 4, 5, 6], 0, 7)

    def test_both(self):
        self.check([], 3, 0)
        self.check([4], 3, 1)
        self.check([4, 5], 3, 2)
        self.check([4, 5, 6], 3, 3)
        self.check([4, 5, 6], 3, 4)
        self.check([6], 5, 1)
        self.check([], 6, 1)
        self.check([], HIGHEST, 0)
        self.check([], HIGHEST, 1)

    def test_every_kind(self):
        for kind, found in enumerate(([0, 1, 2, 4, 5, 6], [4, 5, 6], [5, 6], [5, 6])):
            for start in list(range(8)) + [HIGHEST]:
                for most in list(range(8)) + [HIGHEST]:
                    self.assertEqual(sets(kind, start, most, self.t), [0] + found[start:][:most])

    def test_empty_text(self):
        for kind in range(4):
            self.assertEqual(sets(kind, 0, 1, []), [0, 0])
            self.assertEqual(sets(kind, 0, 0, []), [0])
            self.assertEqual(sets(kind, 1, 1, []), [0])
            self.assertEqual(sets(kind, HIGHEST, HIGHEST, []), [0])

    def test_one_by_one(self):
        for t in made_up_cases(40, 5):
            for kind in range(4):
                count = many(kind, t)[1]
                parts = [sets(kind, start, 1, t)[1:] for start in range(count)]
                self.assertEqual(sum(parts, [0]), every_set(kind, t))
                self.assertEqual(sets(kind, count, 1, t), [0])


class KindTest(unittest.TestCase):
    def test_kind(self):
        for t in ([], text(*FOES)):
            for kind in range(4):
                self.assertEqual(many(kind, t)[0], 0)
                self.assertEqual(sets(kind, 0, 1, t)[0], 0)
            for kind in (4, 5, 8, 256, 1 << 31, HIGHEST):
                self.assertEqual(many(kind, t), [-1])
                for start, most in ((0, 0), (0, 1), (HIGHEST, 0), (HIGHEST, HIGHEST)):
                    self.assertEqual(sets(kind, start, most, t), [-1])


if __name__ == "__main__":
    unittest.main()
