"""Call 1, ground: the ground and each rule's rank."""

import unittest

from helper import Slow, made_up_cases, text
from whatstands.moot import ground


class GroundTest(unittest.TestCase):
    def check(self, expected, *lines):
        self.assertEqual(ground(text(*lines)), expected)

    def test_empty_text(self):
        self.assertEqual(ground([]), [0, 0])

    def test_laws_alone(self):
        self.check([0, 0], "law a: -> p", "law b: p -> ~q")

    def test_one_rule(self):
        self.check([0, 1, 1], "rule a: => p")

    def test_rules_that_nothing_strikes(self):
        self.check([0, 7, 1, 1, 1], "rule a: => p", "rule b: p => q", "rule c: ~q, q => ~s")

    def test_two_that_strike_one_another(self):
        self.check([0, 0, 0, 0], "rule a: => p", "rule b: => ~p")

    def test_a_third_stays_out_of_it(self):
        # a and b together clash with anything, but what clashes by itself strikes nothing.
        self.check([0, 4, 0, 0, 1], "rule a: => p", "rule b: => ~p", "rule c: => q")

    def test_head_that_does_not_come_about(self):
        self.check([0, 3, 1, 1], "rule a: q => p", "rule b: => ~p")
        self.check([0, 3, 1, 1], "law k: s -> q", "rule a: q => p", "rule b: => ~p")

    def test_head_that_comes_about_through_laws(self):
        self.check([0, 0, 0, 0], "law k: s -> q", "law l: -> s", "rule a: q => p", "rule b: => ~p")
        self.check([0, 0, 0, 0], "law k: p -> q", "law l: q -> ~s", "rule a: => p", "rule b: => s")

    def test_head_that_comes_about_through_another_rule(self):
        # b and c go against each other only with a.
        self.check([0, 0, 0, 0, 0], "rule a: => q", "rule b: q => p", "rule c: q => ~p")
        self.check([0, 6, 0, 1, 1], "law k: -> ~q", "rule a: => q", "rule b: q => p", "rule c: q => ~p")

    def test_body_needs_all_its_literals(self):
        self.check([0, 3, 1, 1], "law k: -> s", "rule a: s, q => p", "rule b: => ~p")
        self.check([0, 0, 0, 0], "law k: -> s", "law l: -> q", "rule a: s, q => p", "rule b: => ~p")

    def test_name_of_a_rule_holds_with_it(self):
        self.check([0, 2, 0, 1], "rule a: => q", "rule b: => ~a", "weigh b > a")
        self.check([0, 2, 0, 1], "law k: b -> ~a", "rule a: => q", "rule b: => s", "weigh b > a")
        self.check([0, 3, 1, 1], "law k: ~b -> ~a", "rule a: => q", "rule b: => s")

    def test_laws_against_a_rule(self):
        self.check([0, 0, 0], "law k: -> ~p", "rule a: => p")
        self.check([0, 2, 0, 1], "law k: -> ~p", "rule a: => p", "rule b: => ~p")
        self.check([0, 2, 0, 1], "rule a: => ~a", "rule b: => a")

    def test_struck_by_the_laws_strikes_nobody_that_matters(self):
        # a goes against b, but the laws alone strike a, so b is defended at once.
        self.check([0, 2, 0, 1], "law k: -> ~a", "rule a: => p", "rule b: => ~p")

    def test_weight_settles_it(self):
        self.check([0, 1, 1, 0], "rule a: => p", "rule b: => ~p", "weigh a > b")
        self.check([0, 2, 0, 1], "rule a: => p", "rule b: => ~p", "weigh b > a")

    def test_weight_told_again_or_following_already(self):
        self.check([0, 1, 1, 0], "rule a: => p", "rule b: => ~p", "weigh a > b", "weigh a > b")
        self.check([0, 3, 1, 1, 0], "rule a: => p", "rule b: => q", "rule c: => ~p",
                   "weigh a > b", "weigh b > c", "weigh a > c")

    def test_weight_by_going_on(self):
        rules = ("rule a: => ~p", "rule b: => q", "rule c: => p")
        self.check([0, 2, 0, 1, 0], *rules)
        self.check([0, 2, 0, 1, 0], *rules, "weigh c > b")
        self.check([0, 2, 0, 1, 0], *rules, "weigh b > a")
        self.check([0, 6, 0, 1, 1], *rules, "weigh c > b", "weigh b > a")
        self.check([0, 6, 0, 1, 1], *rules, "weigh b > a", "weigh c > b")

    def test_weight_by_going_on_in_many_steps(self):
        names = ["c", "h", "a", "j", "e", "b", "i", "d", "g", "f"]
        rules = ["rule c: => p", "rule f: => ~p"] + [f"rule {name}: => {name}" for name in names[1:-1]]
        weights = [f"weigh {x} > {y}" for x, y in zip(names, names[1:])]
        for order in (weights, weights[::-1], weights[5:] + weights[:5], weights[::2] + weights[1::2]):
            self.check([0, 1023 - 32, 1, 1, 1, 1, 1, 0, 1, 1, 1, 1], *rules, *order)

    def test_outweighing_a_part_of_those_against_it(self):
        rules = ("law k: p, q -> ~s", "rule a: => p", "rule b: => q", "rule c: => s")
        self.check([0, 0, 0, 0, 0], *rules)
        self.check([0, 1, 1, 0, 0], *rules, "weigh a > c")
        self.check([0, 3, 1, 1, 0], *rules, "weigh a > c", "weigh b > c")
        self.check([0, 5, 1, 0, 1], *rules, "weigh a > b", "weigh c > b")

    def test_ranks_above_1(self):
        self.check([0, 5, 2, 0, 1], "rule a: => p", "rule b: => ~p", "rule c: => ~b", "weigh c > b", "weigh b > a")

    def test_highest_rank(self):
        rules = [f"rule r{k}: => ~r{k - 1}" for k in range(9, 0, -1)] + ["rule r0: => p"]
        weights = [f"weigh r{k} > r{k - 1}" for k in range(1, 10)]
        self.check([0, 682, 0, 5, 0, 4, 0, 3, 0, 2, 0, 1], *rules, *weights)

    def test_ring_stays_out(self):
        # Each of the three goes with one other, not with two.
        self.check([0, 0, 0, 0, 0], "rule a: => p", "rule b: => q", "rule c: => s", "law k: p, q -> ~s")

    def test_rules_in_another_order_than_their_names(self):
        self.check([0, 5, 1, 0, 2], "rule z: => p", "rule m: => ~p", "rule a: => ~m", "weigh a > m", "weigh m > z")

    def test_order_of_names(self):
        # By bytes: the hyphen, digits, letters; a beginning first.
        names = ["z", "b", "ab", "a0", "a-", "aa", "a", "a-z", "a9"]
        ordered = ["a", "a-", "a-z", "a0", "a9", "aa", "ab", "b", "z"]
        for place, name in enumerate(ordered):
            lines = ["law k: -> ~p"] + [f"rule {other}: => {'p' if other == name else other}" for other in names]
            ranks = [0 if k == place else 1 for k in range(9)]
            self.check([0, 511 - (1 << place)] + ranks, *lines)

    def test_a_law_may_be_called_like_an_atom(self):
        self.check([0, 0, 0, 0], "law p: p -> ~q", "rule q: => s", "rule a: => p")

    def test_words_of_the_form_as_names(self):
        self.check([0, 3, 1, 1], "rule law: => weigh", "law weigh: -> rule", "rule rule: law => ~law-",
                   "weigh rule > law")

    def test_against_the_second_reading(self):
        for t in made_up_cases(300, 5):
            with self.subTest(bytes(t)):
                self.assertEqual(ground(t), Slow(t).ground())


if __name__ == "__main__":
    unittest.main()
