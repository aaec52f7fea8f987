"""The promises, asked through the calls alone."""

import unittest

from helper import told_and_made_up
from whatstands.moot import all_that, first, ground, kinds, many, sets, stands, wide

HIGHEST = 4294967295
FREE, ADMISSIBLE, COMPLETE, PREFERRED, STABLE, GROUND, WIDE = 1, 2, 4, 8, 16, 32, 64


def sums_of(t):
    """What stands tells of each literal."""
    sums = []
    given = stands(0, t)
    while given != [-1]:
        sums.append(given[1])
        given = stands(len(sums), t)
    return sums


def within(some, other):
    return some & other == some


class PromiseTest(unittest.TestCase):
    @classmethod
    def setUpClass(cls):
        cls.asked = []
        for t in told_and_made_up(200, 5):
            told = ground(t)
            sums = [kinds(some, t)[1] for some in range(1 << len(told) - 2)]
            cls.asked.append((bytes(t), told[1], told[2:], sums))

    def each(self, check):
        for name, base, ranks, sums in self.asked:
            with self.subTest(name):
                check(base, ranks, sums)

    def those(self, sums, part):
        return [some for some, total in enumerate(sums) if total & part]

    def test_1_rounds_rise(self):
        def check(base, ranks, sums):
            self.assertEqual([rank > 0 for rank in ranks], [base >> i & 1 == 1 for i in range(len(ranks))])
            met = sorted(set(ranks) - {0})
            self.assertEqual(met, list(range(1, len(met) + 1)))
        self.each(check)

    def test_1_ground_is_complete_and_within_every_complete_set(self):
        def check(base, ranks, sums):
            self.assertEqual(self.those(sums, GROUND), [base])
            self.assertTrue(sums[base] & COMPLETE)
            self.assertTrue(all(within(base, some) for some in self.those(sums, COMPLETE)))
        self.each(check)

    def test_2_preferred_sets(self):
        def check(base, ranks, sums):
            admissible = self.those(sums, ADMISSIBLE)
            preferred = self.those(sums, PREFERRED)
            self.assertTrue(preferred)
            for some in admissible:
                self.assertTrue(any(within(some, other) for other in preferred))
            for some in preferred:
                self.assertEqual([other for other in admissible if within(some, other)], [some])
                self.assertTrue(sums[some] & COMPLETE)
            self.assertEqual(preferred, self.those(sums, STABLE))
        self.each(check)

    def test_3_wide_set(self):
        def check(base, ranks, sums):
            wide = self.those(sums, WIDE)
            self.assertEqual(len(wide), 1)
            self.assertTrue(sums[wide[0]] & COMPLETE)
            self.assertTrue(within(base, wide[0]))
            self.assertTrue(all(within(wide[0], some) for some in self.those(sums, PREFERRED)))
        self.each(check)

    def test_each_kind_takes_in_the_narrower(self):
        pairs = ((ADMISSIBLE, FREE), (COMPLETE, ADMISSIBLE), (PREFERRED, ADMISSIBLE),
                 (STABLE, FREE), (GROUND, COMPLETE), (WIDE, ADMISSIBLE))

        def check(base, ranks, sums):
            for total in sums:
                for narrow, broad in pairs:
                    self.assertTrue(total & broad or not total & narrow)
        self.each(check)


class SetsPromiseTest(unittest.TestCase):
    """The promises 1 and 2, asked through ground, many and sets."""

    @classmethod
    def setUpClass(cls):
        cls.asked = []
        for t in told_and_made_up(200, 5):
            found = [sets(kind, 0, HIGHEST, t)[1:] for kind in range(4)]
            cls.asked.append((t, ground(t)[1], found))

    def test_1_ground_is_the_least_complete_set(self):
        for t, base, found in self.asked:
            with self.subTest(bytes(t)):
                self.assertEqual(found[1][0], base)
                self.assertTrue(all(within(base, some) for some in found[1]))

    def test_2_preferred_sets(self):
        for t, base, found in self.asked:
            with self.subTest(bytes(t)):
                self.assertGreater(many(2, t)[1], 0)
                for some in found[0]:
                    self.assertTrue(any(within(some, other) for other in found[2]))
                self.assertLessEqual(set(found[2]), set(found[1]))
                self.assertEqual(found[2], found[3])

    def test_each_kind_takes_in_the_narrower(self):
        for t, base, found in self.asked:
            with self.subTest(bytes(t)):
                self.assertLessEqual(set(found[1]), set(found[0]))
                self.assertEqual(found[0][0], 0)


class WidePromiseTest(unittest.TestCase):
    """The promises 3 and 4, asked through ground, sets, wide and stands."""

    @classmethod
    def setUpClass(cls):
        cls.cases = told_and_made_up(200, 5)

    def test_3_wide_set_is_complete_and_has_the_ground(self):
        for t in self.cases:
            with self.subTest(bytes(t)):
                largest = wide(t)[1]
                self.assertIn(largest, sets(1, 0, HIGHEST, t)[1:])
                self.assertTrue(within(ground(t)[1], largest))
                for some in sets(2, 0, HIGHEST, t)[1:]:
                    self.assertTrue(within(largest, some))

    def test_4_what_stands_is_held_anyway(self):
        for t in self.cases:
            with self.subTest(bytes(t)):
                for total in sums_of(t):
                    if total & 1:
                        self.assertEqual(total & 8, 8)
                    if total & 8:
                        self.assertEqual(total & (4 + 16), 4)

    def test_what_stands_follows_from_the_wide_set(self):
        for t in self.cases:
            with self.subTest(bytes(t)):
                for total in sums_of(t):
                    if total & 1:
                        self.assertEqual(total & 64, 64)
                    if total & 64:
                        self.assertEqual(total & 8, 8)

    def test_4_asked_of_all_that(self):
        for t in self.cases:
            with self.subTest(bytes(t)):
                standing, holdable, anyway, widely = [set(all_that(how, t)[1:]) for how in range(4)]
                self.assertLessEqual(standing, widely)
                self.assertLessEqual(widely, anyway)
                self.assertLessEqual(anyway, holdable)
                self.assertFalse(holdable & {literal ^ 1 for literal in anyway})


class StrikerPromiseTest(unittest.TestCase):
    """The promise 5, asked through ground, kinds and first."""

    def test_5_a_rule_is_not_in_the_ground_just_if_a_striker_is_left(self):
        for t in told_and_made_up(200, 5):
            with self.subTest(bytes(t)):
                base = ground(t)[1]
                for rule in range(len(ground(t)) - 2):
                    given = first(rule, t)
                    self.assertEqual(given[0], -3 if base >> rule & 1 else 0)
                    if given[0] == 0:
                        self.check_striker(rule, given[1], t)

    def check_striker(self, rule, striker, t):
        # It's free, with the rule no more; of a part that's smaller by one rule both are.
        self.assertTrue(kinds(striker, t)[1] & FREE)
        self.assertFalse(kinds(striker | 1 << rule, t)[1] & FREE)
        for other in range(10):
            if striker >> other & 1:
                self.assertTrue(kinds(striker ^ 1 << other | 1 << rule, t)[1] & FREE)


if __name__ == "__main__":
    unittest.main()
