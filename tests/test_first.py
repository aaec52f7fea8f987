"""Call 8, first: what's against a rule that isn't in the ground."""

import unittest

from helper import CHAIN, FOES, HELPED, SELF_MADE, TRIO, Slow, made_up_cases, text, told_and_made_up
from whatstands.moot import first, ground, kinds

HIGHEST = 4294967295
IN = [-3]


def against(*parts):
    """Laws under which a doesn't go with each of the parts, whose rules' names are told as a text."""
    return tuple(f"law k{number}: {', '.join(part)} -> ~a" for number, part in enumerate(parts))


def rules(names):
    return tuple(f"rule {name}: => {name}" for name in names)


class FirstTest(unittest.TestCase):
    def check(self, lines, *expected):
        """Every rule in order: IN or the striker's number; and the next number, which is no rule's."""
        t = text(*lines)
        with self.subTest(lines):
            told = [first(rule, t) for rule in range(len(expected))]
            self.assertEqual(told, [IN if number == IN else [0, number] for number in expected])
            for rule in (len(expected), len(expected) + 1, 1 << 31, HIGHEST):
                self.assertEqual(first(rule, t), [-1])

    def test_empty_text(self):
        self.check(())
        self.assertEqual(first(0, []), [-1])

    def test_laws_alone(self):
        self.check(("law a: -> p",))

    def test_rules_of_the_ground(self):
        self.check(("rule a: => p",), IN)
        self.check(("rule a: => p", "rule b: p => q", "rule c: ~q, q => ~s"), IN, IN, IN)

    def test_one_striker(self):
        self.check(FOES, 2, 1)
        self.check(FOES + ("rule c: => q",), 2, 1, IN)
        self.check(FOES + ("weigh a > b",), IN, 1)
        self.check(FOES + ("weigh b > a",), 2, IN)

    def test_one_striker_of_two_rules(self):
        self.check(TRIO, 6, 5, 3)

    def test_strikers_of_unlike_sizes(self):
        # Against a go b and c together, and d alone, which is the greater number.
        self.check(rules("abcd") + against("bc", "d"), 8, 5, 3, 1)
        self.check(rules("abcd") + against("d", "bc"), 8, 5, 3, 1)
        self.check(rules("abcdefg") + against("bcd", "ef"), 48, 13, 11, 7, 33, 17, IN)

    def test_strikers_of_one_size(self):
        self.check(rules("abc") + against("b", "c"), 2, 1, 1)
        self.check(rules("abc") + against("c", "b"), 2, 1, 1)
        # 2 and 16 together are more than 4 and 8, though they have the least rule.
        self.check(rules("abcde") + against("be", "cd"), 12, 17, 9, 5, 3)

    def test_least_strikers_alone(self):
        # b is against a by itself, so b with c isn't told.
        self.check(rules("abc") + against("b", "bc"), 2, 1, IN)

    def test_smallest_striker_that_the_ground_strikes(self):
        lines = rules("abcde") + against("bc", "d") + ("law l: e -> ~d",)
        self.check(lines + ("weigh e > d",), 6, 5, 3, 1, IN)
        # Without the weight d may strike e, and is told.
        self.check(lines, 8, 5, 3, 1, 8)

    def test_striker_of_which_the_ground_strikes_one_of_two(self):
        # g strikes c, so of b and c one is left, and the three others are told.
        lines = rules("abcdefg") + against("bc", "def") + ("law l: g -> ~c", "weigh g > c")
        self.check(lines, 56, IN, 64, 49, 41, 25, IN)

    def test_empty_striker(self):
        self.check(("law k: -> ~p", "rule a: => p"), 0)
        self.check(("law k: -> ~p", "rule a: => p", "rule b: => ~p"), 0, IN)
        self.check(("rule a: => ~a", "rule b: => a"), 0, IN)
        # b goes against a too, but the laws alone do.
        self.check(rules("ab") + ("law k: -> ~a", "law l: b -> ~a"), 0, IN)

    def test_empty_striker_whatever_the_weights(self):
        self.check(rules("ab") + ("law k: -> ~a", "weigh a > b"), 0, IN)
        self.check(rules("ab") + ("law k: -> ~a", "weigh b > a"), 0, IN)

    def test_weights_take_strikers_away(self):
        lines = rules("abc") + against("b", "c")
        self.check(lines, 2, 1, 1)
        self.check(lines + ("weigh a > b",), 4, 1, 1)
        self.check(lines + ("weigh a > c",), 2, 1, 1)
        self.check(lines + ("weigh a > b", "weigh a > c"), IN, 1, 1)
        self.check(lines + ("weigh b > a",), 2, IN, IN)

    def test_weights_by_going_on(self):
        lines = rules("abcd") + against("b", "c")
        self.check(lines + ("weigh a > d", "weigh d > b"), 4, 1, 1, IN)
        self.check(lines + ("weigh d > b", "weigh a > d"), 4, 1, 1, IN)

    def test_one_outweighed_rule_is_enough(self):
        self.check(TRIO + ("weigh a > c",), IN, 5, 3)
        lines = rules("abcd") + against("bc", "d")
        self.check(lines + ("weigh a > b",), 8, 5, 3, 1)
        self.check(lines + ("weigh a > d",), 6, 5, 3, 1)
        self.check(lines + ("weigh a > d", "weigh a > c"), IN, 5, 3, 1)

    def test_heavier_striker_does_not_go_first(self):
        self.check(rules("abc") + against("b", "c") + ("weigh c > a",), 2, IN, IN)

    def test_set_that_clashes_by_itself_is_no_striker(self):
        # b and c clash, so only d is against a.
        self.check(rules("abcd") + against("bc", "d") + ("law l: b -> ~c",), 8, 4, 2, 1)

    def test_chain(self):
        self.check(CHAIN, IN, 4, IN, 16, IN)

    def test_several_preferred_sets(self):
        self.check(SELF_MADE, 2, 1, 1, 4)
        self.check(HELPED, 2, 1, 1, 4)

    def test_rules_in_another_order_than_their_names(self):
        self.check(("rule z: => p", "rule m: => ~p", "rule a: => q"), IN, 4, 2)

    def test_last_rule_of_ten(self):
        lines = rules("abcdefghij") + ("law k: a, b, c, d, e, f -> x", "law l: x, g, h, i -> ~j")
        expected = [1023 - (1 << i) for i in range(10)]
        self.check(lines, *expected)

    def test_goes_with_ground_and_kinds(self):
        for t in told_and_made_up(150, 5):
            with self.subTest(bytes(t)):
                told = ground(t)
                for rule, rank in enumerate(told[2:]):
                    given = first(rule, t)
                    self.assertEqual(given == IN, rank > 0)
                    if rank == 0:
                        # It's free, and no more with the rule.
                        self.assertEqual(given[1] >> rule & 1, 0)
                        self.assertEqual(kinds(given[1], t)[1] & 1, 1)
                        self.assertEqual(kinds(given[1] | 1 << rule, t)[1] & 1, 0)

    def test_against_the_second_reading(self):
        for t in told_and_made_up(400, 5):
            with self.subTest(bytes(t)):
                told = Slow(t).first()
                self.assertEqual([first(rule, t) for rule in range(len(told))], told)
                self.assertEqual(first(len(told), t), [-1])


if __name__ == "__main__":
    unittest.main()
