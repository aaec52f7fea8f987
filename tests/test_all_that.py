"""Call 7, all_that: the literals that stand, may be held, are held anyway, follow from the wide set."""

import unittest

from helper import CHAIN, FOES, HELPED, SELF_MADE, TRIO, Slow, made_up_cases, text, told_and_made_up
from whatstands.moot import all_that, stands

HIGHEST = 4294967295
# By how, the part of the sum that stands tells of such a literal.
PARTS = (1, 4, 8, 64)


def literals_of(t):
    """The numbers of all literals of a case."""
    number = 0
    while stands(number, t) != [-1]:
        number += 1
    return range(number)


class AllThatTest(unittest.TestCase):
    def check(self, lines, *expected):
        """For each how from 0 on, the literals as words with blanks between."""
        t = text(*lines)
        names = Slow(t).literals()
        for how, words in enumerate(expected):
            with self.subTest(lines=lines, how=how):
                found = all_that(how, t)
                self.assertEqual(found[0], 0)
                self.assertEqual(" ".join(names[number] for number in found[1:]), words)

    def test_empty_text(self):
        for how in range(4):
            self.assertEqual(all_that(how, []), [0])

    def test_numbers(self):
        t = text(*FOES, "rule c: => q")
        self.assertEqual(all_that(0, t), [0, 4, 8])
        self.assertEqual(all_that(1, t), [0, 0, 2, 4, 6, 7, 8])
        self.assertEqual(all_that(2, t), [0, 4, 8])
        self.assertEqual(all_that(3, t), [0, 4, 8])

    def test_laws_alone(self):
        self.check(("law a: -> p", "law b: p -> ~q"), "p ~q", "p ~q", "p ~q", "p ~q")
        self.check(("law a: p -> q",), "", "", "", "")

    def test_rules_that_nothing_strikes(self):
        self.check(("rule a: => p", "rule b: p => q", "rule c: ~q, q => ~s"), *["a b c p q"] * 4)

    def test_two_that_strike_one_another(self):
        self.check(FOES, "", "a b p ~p", "", "")

    def test_weight_settles_it(self):
        self.check(FOES + ("weigh a > b",), *["a p"] * 4)
        self.check(FOES + ("weigh b > a",), *["b ~p"] * 4)

    def test_laws_against_a_rule(self):
        self.check(("law k: -> ~p", "rule a: => p"), *["~p"] * 4)

    def test_chain(self):
        self.check(CHAIN, *["~r0 r1 ~r2 r3 ~r4 r5"] * 4)

    def test_three_of_which_two_go_together(self):
        self.check(TRIO, "", "a b c p q s ~s", "", "")
        self.check(TRIO + ("weigh a > c",), "a p", "a b c p q s ~s", "a p", "a p")

    def test_held_anyway_for_unlike_reasons(self):
        self.check(FOES + ("law k: p -> q", "law l: ~p -> q"), "", "a b p ~p q", "q", "")

    def test_each_how_by_itself(self):
        # f stands; d and ~s follow from the wide set besides; ~c is held anyway besides.
        self.check(SELF_MADE + ("rule f: => q",), "f q", "a b ~c d f p ~p q ~s", "~c d f q ~s", "d f q ~s")
        self.check(HELPED + ("rule f: => q",), "f q", "a b ~c d f p ~p q ~s", "~c d f q ~s", "f q")

    def test_order_of_atoms(self):
        names = ["z", "b", "ab", "a0", "a-", "aa", "a", "a-z", "a9"]
        laws = [f"law l{k}: -> {name}" for k, name in enumerate(names[:5])]
        laws += [f"law m{k}: -> ~{name}" for k, name in enumerate(names[5:])]
        for how in range(4):
            self.assertEqual(all_that(how, text(*laws)), [0, 1, 2, 5, 6, 9, 11, 12, 14, 16])

    def test_how(self):
        for t in ([], text(*FOES)):
            for how in range(4):
                self.assertEqual(all_that(how, t)[0], 0)
            for how in (4, 5, 8, 256, 1 << 31, HIGHEST):
                self.assertEqual(all_that(how, t), [-1])

    def test_just_those_that_stands_tells(self):
        for t in told_and_made_up(150, 5):
            sums = [stands(number, t)[1] for number in literals_of(t)]
            for how, part in enumerate(PARTS):
                with self.subTest(text=bytes(t), how=how):
                    found = [number for number, total in enumerate(sums) if total & part]
                    self.assertEqual(all_that(how, t), [0] + found)

    def test_they_rise(self):
        for t in told_and_made_up(150, 5):
            for how in range(4):
                found = all_that(how, t)[1:]
                self.assertEqual(found, sorted(set(found)))

    def test_against_the_second_reading(self):
        for t in made_up_cases(250, 5):
            sums = Slow(t).stands()
            for how, part in enumerate(PARTS):
                with self.subTest(text=bytes(t), how=how):
                    found = [number for number, total in enumerate(sums) if total & part]
                    self.assertEqual(all_that(how, t), [0] + found)


if __name__ == "__main__":
    unittest.main()
