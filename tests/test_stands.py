"""Call 6, stands: how a literal stands."""

import unittest

from helper import FOES, HELPED, SELF_MADE, Slow, made_up_cases, text, told_and_made_up
from whatstands.moot import ground, sets, stands, wide

HIGHEST = 4294967295
STANDS, FALLS, HELD, ANYWAY, OPPOSITE_HELD, OPPOSITE_ANYWAY, FROM_WIDE = 1, 2, 4, 8, 16, 32, 64
# Of a literal that follows from the ground, and of its opposite.
FIRM = STANDS + HELD + ANYWAY + FROM_WIDE
GONE = FALLS + OPPOSITE_HELD + OPPOSITE_ANYWAY


class StandsTest(unittest.TestCase):
    def check(self, sums, *lines):
        """Every literal of the case in order, and the next number, which is no literal's."""
        t = text(*lines)
        with self.subTest(lines):
            self.assertEqual([stands(k, t) for k in range(len(sums))], [[0, total] for total in sums])
            for literal in (len(sums), len(sums) + 1, HIGHEST - 1, HIGHEST):
                self.assertEqual(stands(literal, t), [-1])

    def test_empty_text(self):
        self.check([])

    def test_laws_alone(self):
        self.check([FIRM, GONE], "law a: -> p")
        self.check([GONE, FIRM], "law a: -> ~p")
        self.check([FIRM, GONE, GONE, FIRM], "law a: -> p", "law b: p -> ~q")
        self.check([0, 0, 0, 0], "law a: p -> q")

    def test_name_of_a_law_is_no_atom(self):
        self.check([FIRM, GONE], "law p: -> q")

    def test_name_of_a_rule_is_an_atom(self):
        # Told nowhere but as a name: ahead of the head's atom, and behind it.
        self.check([FIRM, GONE, FIRM, GONE], "rule a: => p")
        self.check([FIRM, GONE, FIRM, GONE], "rule zz: => p")
        self.check([FIRM, GONE, GONE, FIRM], "rule a: => ~p")
        self.check([0, 0, FIRM, GONE, 0, 0], "rule b: z => a")
        self.check([0, 0, GONE, FIRM], "rule a: => p", "law k: -> ~p")

    def test_name_of_a_rule_that_is_told_elsewhere_too(self):
        self.check([FIRM, GONE], "rule a: => a")
        self.check([0, 0], "rule a: => ~a")
        self.check([GONE, FIRM], "rule a: => a", "law k: -> ~a")
        self.check([GONE, FIRM, FIRM, GONE, 0, 0], "rule a: => q", "rule b: => ~a", "weigh b > a")

    def test_atom_of_a_body_alone(self):
        self.check([FIRM, GONE, 0, 0, 0, 0], "rule a: p => q")
        self.check([FIRM, GONE, 0, 0, 0, 0], "rule a: ~p => q")

    def test_two_that_strike_one_another(self):
        self.check([HELD, OPPOSITE_HELD, HELD, OPPOSITE_HELD, HELD + OPPOSITE_HELD, HELD + OPPOSITE_HELD], *FOES)

    def test_a_third_stays_out_of_it(self):
        self.check([HELD, OPPOSITE_HELD, HELD, OPPOSITE_HELD, FIRM, GONE, HELD + OPPOSITE_HELD,
                    HELD + OPPOSITE_HELD, FIRM, GONE], *FOES, "rule c: => q")

    def test_weight_settles_it(self):
        self.check([FIRM, GONE, 0, 0, FIRM, GONE], *FOES, "weigh a > b")
        self.check([0, 0, FIRM, GONE, GONE, FIRM], *FOES, "weigh b > a")

    def test_held_anyway_for_unlike_reasons(self):
        # q follows from p and from its opposite, but from no set that all preferred ones have.
        self.check([HELD, OPPOSITE_HELD, HELD, OPPOSITE_HELD, HELD + OPPOSITE_HELD, HELD + OPPOSITE_HELD,
                    HELD + ANYWAY, OPPOSITE_HELD + OPPOSITE_ANYWAY],
                   *FOES, "law k: p -> q", "law l: ~p -> q")
        self.check([HELD, OPPOSITE_HELD, HELD, OPPOSITE_HELD, HELD + OPPOSITE_HELD, HELD + OPPOSITE_HELD,
                    OPPOSITE_HELD + OPPOSITE_ANYWAY, HELD + ANYWAY],
                   *FOES, "law k: p -> ~q", "law l: ~p -> ~q")

    def test_from_the_wide_set_and_not_from_the_ground(self):
        held = HELD + ANYWAY + FROM_WIDE
        lost = OPPOSITE_HELD + OPPOSITE_ANYWAY
        self.check([HELD, OPPOSITE_HELD, HELD, OPPOSITE_HELD, lost, HELD + ANYWAY, held, lost,
                    HELD + OPPOSITE_HELD, HELD + OPPOSITE_HELD, lost, held], *SELF_MADE)

    def test_held_anyway_and_not_from_the_wide_set(self):
        held = HELD + ANYWAY
        lost = OPPOSITE_HELD + OPPOSITE_ANYWAY
        self.check([HELD, OPPOSITE_HELD, HELD, OPPOSITE_HELD, lost, held, held, lost,
                    HELD + OPPOSITE_HELD, HELD + OPPOSITE_HELD, lost, held], *HELPED)

    def test_every_part_there_and_missing(self):
        t = text(*SELF_MADE, "rule e: => q")
        told = [stands(literal, t)[1] for literal in range(16)]
        firm = text("law k: -> ~p")
        told += [stands(literal, firm)[1] for literal in range(2)]
        # Atoms by themselves, and opposites by themselves.
        for sums in (told[::2], told[1::2]):
            for part in (STANDS, FALLS, HELD, ANYWAY, OPPOSITE_HELD, OPPOSITE_ANYWAY, FROM_WIDE):
                self.assertEqual({total & part for total in sums}, {0, part})

    def test_order_of_atoms(self):
        # By bytes: the hyphen, digits, letters; a beginning first.
        names = ["z", "b", "ab", "a0", "a-", "aa", "a", "a-z", "a9"]
        ordered = ["a", "a-", "a-z", "a0", "a9", "aa", "ab", "b", "z"]
        bodies = ["law k: " + ", ".join(names[:5]) + " -> " + names[5],
                  "law l: " + ", ".join(names[5:]) + " -> " + names[0]]
        for place, name in enumerate(ordered):
            sums = [0] * 18
            sums[2 * place:2 * place + 2] = [FIRM, GONE]
            self.check(sums, *bodies, f"law m: -> {name}")
            sums[2 * place:2 * place + 2] = [GONE, FIRM]
            self.check(sums, *bodies, f"law m: -> ~{name}")

    def test_order_of_atoms_and_rules_names(self):
        self.check([0, 0, FIRM, GONE, GONE, FIRM, FIRM, GONE],
                   "rule z: => b", "law k: b -> ~m", "law l: m -> a")

    def test_atoms_told_many_times_are_one(self):
        self.check([FIRM, GONE, FIRM, GONE], "law k: p, ~p -> a", "rule a: a => p", "law l: ~p, p -> ~a")

    def test_what_follows_by_steps(self):
        self.check([FIRM, GONE] * 5, "law k: q -> s", "law l: s, a -> u", "rule a: => p", "law m: p -> q")

    def test_same_as_what_follows_from_the_sets(self):
        for t in told_and_made_up(120, 5):
            read = Slow(t)
            sets_of = [[ground(t)[1]], sets(2, 0, HIGHEST, t)[1:], [wide(t)[1]]]
            follows = [[read.follows(self.names_of(read, some)) for some in found] for found in sets_of]
            for number, literal in enumerate(read.literals()):
                total = stands(number, t)[1]
                self.assertEqual(total & STANDS != 0, literal in follows[0][0])
                self.assertEqual(total & HELD != 0, any(literal in each for each in follows[1]))
                self.assertEqual(total & ANYWAY != 0, all(literal in each for each in follows[1]))
                self.assertEqual(total & FROM_WIDE != 0, literal in follows[2][0])

    def names_of(self, read, some):
        return [name for i, name in enumerate(read.names) if some >> i & 1]

    def test_parts_of_a_literal_and_its_opposite(self):
        for t in told_and_made_up(120, 5):
            for number in range(2 * len(Slow(t).atoms)):
                total = stands(number, t)[1]
                other = stands(number ^ 1, t)[1]
                for own, opposite in ((STANDS, FALLS), (HELD, OPPOSITE_HELD), (ANYWAY, OPPOSITE_ANYWAY)):
                    self.assertEqual(total & own != 0, other & opposite != 0)

    def test_against_the_second_reading(self):
        for t in told_and_made_up(250, 5):
            with self.subTest(bytes(t)):
                sums = Slow(t).stands()
                self.assertEqual([stands(k, t) for k in range(len(sums))], [[0, total] for total in sums])
                self.assertEqual(stands(len(sums), t), [-1])


if __name__ == "__main__":
    unittest.main()
