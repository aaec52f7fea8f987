"""Call 2, kinds: what a set of rules is."""

import unittest

from helper import HELPED, SELF_MADE, Slow, made_up_cases, text
from whatstands.moot import kinds

FREE, ADMISSIBLE, COMPLETE, PREFERRED, STABLE, GROUND, WIDE = 1, 2, 4, 8, 16, 32, 64
CHOICE = FREE + ADMISSIBLE + COMPLETE + PREFERRED + STABLE
EVERY = CHOICE + GROUND + WIDE
CORE = FREE + ADMISSIBLE + COMPLETE + GROUND + WIDE


class KindsTest(unittest.TestCase):
    def check(self, sums, *lines):
        """Every set of the case, from the empty one on."""
        t = text(*lines)
        self.assertEqual([kinds(some, t) for some in range(len(sums))], [[0, total] for total in sums])
        self.assertEqual(kinds(len(sums), t), [-1])

    def test_empty_text(self):
        self.assertEqual(kinds(0, []), [0, EVERY])

    def test_laws_alone(self):
        self.check([EVERY], "law a: -> p", "law b: p -> ~q")

    def test_rules_that_nothing_strikes(self):
        self.check([3, EVERY], "rule a: => p")
        self.check([3, 3, 3, EVERY], "rule a: => p", "rule b: p => q")

    def test_two_that_strike_one_another(self):
        self.check([CORE, CHOICE, CHOICE, 0], "rule a: => p", "rule b: => ~p")

    def test_a_third_stays_out_of_it(self):
        self.check([3, 3, 3, 0, CORE, CHOICE, CHOICE, 0], "rule a: => p", "rule b: => ~p", "rule c: => q")

    def test_weight_settles_it(self):
        self.check([3, FREE, EVERY, 0], "rule a: => p", "rule b: => ~p", "weigh b > a")
        self.check([3, EVERY, FREE, 0], "rule a: => p", "rule b: => ~p", "weigh a > b")

    def test_weight_by_going_on(self):
        self.check([3, 1, 3, 1, 3, 0, EVERY, 0], "rule a: => ~p", "rule b: => q", "rule c: => p",
                   "weigh c > b", "weigh b > a")

    def test_laws_against_a_rule(self):
        self.check([EVERY, 0], "law k: -> ~p", "rule a: => p")
        self.check([3, 0, EVERY, 0], "rule a: => ~a", "rule b: => a")

    def test_chain(self):
        # c goes against b, b against a: a needs c.
        self.check([3, 1, 1, 0, 3, EVERY, 0, 0], "rule a: => p", "rule b: => ~p", "rule c: => ~b",
                   "weigh c > b", "weigh b > a")

    def test_three_of_which_two_go_together(self):
        rules = ("law k: p, q -> ~s", "rule a: => p", "rule b: => q", "rule c: => s")
        self.check([CORE, 1, 1, CHOICE, 1, CHOICE, CHOICE, 0], *rules)
        self.check([3, CORE, 1, CHOICE, 1, CHOICE, 1, 0], *rules, "weigh a > c")

    def test_eight_in_four_pairs(self):
        names = "abcdefgh"
        heads = ("p", "~p", "q", "~q", "s", "~s", "u", "~u")
        lines = [f"rule {name}: => {head}" for name, head in zip(names, heads)]
        self.check([self.of_pairs(some) for some in range(256)], *lines)

    def of_pairs(self, some):
        pairs = [some >> place & 3 for place in (0, 2, 4, 6)]
        if 3 in pairs:
            return 0
        if 0 not in pairs:
            return CHOICE
        return CORE if some == 0 else FREE + ADMISSIBLE + COMPLETE

    def test_wide_set_larger_than_the_ground(self):
        t = text(*SELF_MADE)
        sums = [kinds(some, t)[1] for some in range(16)]
        self.assertEqual(sums, [FREE + ADMISSIBLE + COMPLETE + GROUND, 3, 3, 0, 1, 0, 0, 0,
                                FREE + ADMISSIBLE + COMPLETE + WIDE, CHOICE, CHOICE, 0, 0, 0, 0, 0])

    def test_wide_set_smaller_than_what_the_preferred_share(self):
        t = text(*HELPED)
        sums = [kinds(some, t)[1] for some in range(16)]
        self.assertEqual(sums, [CORE, 3, 3, 0, 1, 0, 0, 0, 1, CHOICE, CHOICE, 0, 0, 0, 0, 0])

    def test_rules_in_another_order_than_their_names(self):
        self.check([3, EVERY, FREE, 0], "rule b: => ~p", "rule a: => p", "weigh a > b")
        self.check([3, FREE, EVERY, 0], "rule b: => ~p", "rule a: => p", "weigh b > a")

    def test_every_part_there_and_missing(self):
        t = text("rule a: => p", "rule b: => ~p", "rule c: => q")
        sums = [kinds(some, t)[1] for some in range(8)]
        for part in (FREE, ADMISSIBLE, COMPLETE, PREFERRED, STABLE, GROUND, WIDE):
            self.assertEqual({total & part for total in sums}, {0, part})

    def test_bit_that_is_no_rules(self):
        for rules in range(11):
            t = text(*[f"rule {name}: => p" if name == "a" else f"rule {name}: => {name}"
                       for name in "abcdefghij"[:rules]])
            every = (1 << rules) - 1
            self.assertEqual(kinds(every, t), [0, EVERY])
            for some in (every + 1, 1 << 31, (1 << 31) + every, 4294967295):
                self.assertEqual(kinds(some, t), [-1])

    def test_against_the_second_reading(self):
        for t in made_up_cases(300, 5):
            with self.subTest(bytes(t)):
                sums = Slow(t).kinds()
                self.assertEqual({some: kinds(some, t) for some in sums}, {some: [0, sums[some]] for some in sums})


if __name__ == "__main__":
    unittest.main()
