"""Call 5, wide: the largest admissible set that is within every preferred one."""

import unittest

from helper import CHAIN, FOES, HELPED, SELF_MADE, TRIO, Slow, made_up_cases, text, told_and_made_up
from whatstands.moot import ground, kinds, sets, wide

HIGHEST = 4294967295


def shared(t):
    """What all preferred sets have in common."""
    preferred = sets(2, 0, HIGHEST, t)[1:]
    common = preferred[0]
    for some in preferred:
        common &= some
    return common


class WideTest(unittest.TestCase):
    def check(self, expected, *lines):
        self.assertEqual(wide(text(*lines)), [0, expected])

    def test_empty_text(self):
        self.assertEqual(wide([]), [0, 0])

    def test_laws_alone(self):
        self.check(0, "law a: -> p", "law b: p -> ~q")

    def test_one_preferred_set(self):
        self.check(1, "rule a: => p")
        self.check(7, "rule a: => p", "rule b: p => q", "rule c: ~q, q => ~s")
        self.check(1, *FOES, "weigh a > b")
        self.check(2, *FOES, "weigh b > a")
        self.check(21, *CHAIN)
        self.check(0, "law k: -> ~p", "rule a: => p")

    def test_several_preferred_sets(self):
        self.check(0, *FOES)
        self.check(4, *FOES, "rule c: => q")
        self.check(0, *TRIO)
        self.check(1, *TRIO, "weigh a > c")

    def test_all_that_they_share(self):
        t = text(*SELF_MADE)
        self.assertEqual(shared(t), 8)
        self.assertEqual(wide(t), [0, 8])
        self.assertEqual(ground(t)[1], 0)

    def test_less_than_they_share(self):
        t = text(*HELPED)
        self.assertEqual(shared(t), 8)
        self.assertEqual(wide(t), [0, 0])
        # e stays out of it, and is all that's left.
        t = text(*HELPED, "rule e: => q")
        self.assertEqual(shared(t), 24)
        self.assertEqual(wide(t), [0, 16])

    def test_both_at_once(self):
        # e goes against f as d does against c, but needs nobody's help.
        t = text("law m: a -> ~f", "law n: b -> ~f", *HELPED, "rule e: => ~u", "rule f: => u",
                 "weigh a > f", "weigh b > f")
        self.assertEqual(shared(t), 24)
        self.assertEqual(wide(t), [0, 16])
        self.assertEqual(ground(t)[1], 0)

    def test_rules_in_another_order_than_their_names(self):
        self.check(4, "rule z: => q", "rule b: => ~p", "rule a: => p")

    def test_the_one_that_kinds_tells(self):
        for t in told_and_made_up(120, 5):
            with self.subTest(bytes(t)):
                rules = bytes(t).count(b"rule ")
                found = [some for some in range(1 << rules) if kinds(some, t)[1] & 64]
                self.assertEqual([0] + found, wide(t))

    def test_against_the_second_reading(self):
        for t in made_up_cases(300, 5):
            with self.subTest(bytes(t)):
                read = Slow(t)
                self.assertEqual(wide(t), [0] + [read.number(some) for some in read.all_wide()])


if __name__ == "__main__":
    unittest.main()
