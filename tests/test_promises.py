"""The promises 1, 2 and 3, asked through ground and kinds alone."""

import unittest

from helper import made_up_cases, text
from whatstands.moot import ground, kinds

FREE, ADMISSIBLE, COMPLETE, PREFERRED, STABLE, GROUND, WIDE = 1, 2, 4, 8, 16, 32, 64

TOLD = (
    text(),
    text("law a: -> p"),
    text("rule a: => p", "rule b: => ~p", "rule c: => q"),
    text("law k: a -> ~c", "law l: b -> ~c", "rule a: => p", "rule b: => ~p", "rule c: => s", "rule d: => ~s",
         "weigh a > c", "weigh b > c"),
    text(*[f"rule r{k}: => ~r{k - 1}" for k in range(1, 6)], *[f"weigh r{k} > r{k - 1}" for k in range(2, 6)]),
    text("law k: p, q -> ~s", "rule a: => p", "rule b: => q", "rule c: => s", "weigh a > c"),
)


def within(some, other):
    return some & other == some


class PromiseTest(unittest.TestCase):
    @classmethod
    def setUpClass(cls):
        cls.asked = []
        for t in list(TOLD) + made_up_cases(200, 5):
            told = ground(t)
            sums = [kinds(some, t)[1] for some in range(1 << len(told) - 2)]
            cls.asked.append((bytes(t), told[1], told[2:], sums))

    def each(self, check):
        for name, base, ranks, sums in self.asked:
            with self.subTest(name):
                check(base, ranks, sums)

    def those(self, sums, part):
        return [some for some, total in enumerate(sums) if total & part]

    def test_1_rounds_rise(self):
        def check(base, ranks, sums):
            self.assertEqual([rank > 0 for rank in ranks], [base >> i & 1 == 1 for i in range(len(ranks))])
            met = sorted(set(ranks) - {0})
            self.assertEqual(met, list(range(1, len(met) + 1)))
        self.each(check)

    def test_1_ground_is_complete_and_within_every_complete_set(self):
        def check(base, ranks, sums):
            self.assertEqual(self.those(sums, GROUND), [base])
            self.assertTrue(sums[base] & COMPLETE)
            self.assertTrue(all(within(base, some) for some in self.those(sums, COMPLETE)))
        self.each(check)

    def test_2_preferred_sets(self):
        def check(base, ranks, sums):
            admissible = self.those(sums, ADMISSIBLE)
            preferred = self.those(sums, PREFERRED)
            self.assertTrue(preferred)
            for some in admissible:
                self.assertTrue(any(within(some, other) for other in preferred))
            for some in preferred:
                self.assertEqual([other for other in admissible if within(some, other)], [some])
                self.assertTrue(sums[some] & COMPLETE)
            self.assertEqual(preferred, self.those(sums, STABLE))
        self.each(check)

    def test_3_wide_set(self):
        def check(base, ranks, sums):
            wide = self.those(sums, WIDE)
            self.assertEqual(len(wide), 1)
            self.assertTrue(sums[wide[0]] & COMPLETE)
            self.assertTrue(within(base, wide[0]))
            self.assertTrue(all(within(wide[0], some) for some in self.those(sums, PREFERRED)))
        self.each(check)

    def test_each_kind_takes_in_the_narrower(self):
        pairs = ((ADMISSIBLE, FREE), (COMPLETE, ADMISSIBLE), (PREFERRED, ADMISSIBLE),
                 (STABLE, FREE), (GROUND, COMPLETE), (WIDE, ADMISSIBLE))

        def check(base, ranks, sums):
            for total in sums:
                for narrow, broad in pairs:
                    self.assertTrue(total & broad or not total & narrow)
        self.each(check)


if __name__ == "__main__":
    unittest.main()
