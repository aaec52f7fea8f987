"""The largest cases that the document allows."""

import inspect
import sys
import unittest

from helper import Slow, padded, text
from whatstands.moot import all_that, first, ground, kinds, many, sets, stands, wide

NAMES = ("a", "b", "bb", "c", "d", "e", "f", "g", "h", "i")
RULES = [f"rule {name}: => {name}" for name in NAMES]
ALL_BUT_A = [0, 1022, 0, 1, 1, 1, 1, 1, 1, 1, 1, 1]


def long_chain():
    """64 laws, 10 rules, 64 atoms: the last rule goes against the first by a chain told backwards."""
    chain = [f"law l{k}: p{k} -> p{k + 1}" for k in range(52, -1, -1)]
    ends = ["law begin: i -> p0", "law end: p53 -> ~a", "weigh i > a"]
    idle = [f"law m{k}: p{k}, ~p{k} -> p{k + 2}" for k in range(9)]
    return RULES + chain + ends + idle


def broad_laws():
    """Names of 15 bytes and bodies of 6 literals; only all ten rules together clash."""
    atoms = [f"p{k:02}-234567890ab" for k in range(53)]
    laws = []
    for k in range(48):
        body = ", ".join(atoms[k:k + 5] + [NAMES[k % 10]])
        laws.append(f"law l{k:02}-234567890ab: {body} -> {atoms[k + 5]}")
    begin = [f"law begin{k}: -> {atom}" for k, atom in enumerate(atoms[:5])]
    return RULES + laws[::-1] + begin + [f"law end: {atoms[52]} -> ~a", "weigh i > a"]


def at_most_five():
    """Any five of the ten rules go together, no six: the atom ckj says that at least j of the first k hold."""
    def counted(k, j):
        return f"c{k}{j}"

    nodes = [(k, j) for k in range(1, 10) for j in range(max(1, k - 4), min(k, 5) + 1)]
    lines = ["law begin: -> z"]
    for k, name in enumerate(NAMES, start=1):
        lines.append(f"rule {name}: => {counted(k, 1) if (k, 1) in nodes else name}")
    for k, j in nodes:
        if (k - 1, j) in nodes:
            lines.append(f"law keep{k}{j}: {counted(k - 1, j)} -> {counted(k, j)}")
        if (k - 1, j - 1) in nodes:
            lines.append(f"law more{k}{j}: {NAMES[k - 1]}, {counted(k - 1, j - 1)} -> {counted(k, j)}")
    for k in range(6, 11):
        lines.append(f"law full{k}: {NAMES[k - 1]}, {counted(k - 1, 5)} -> ~z")
    return lines


def opposite(literal):
    return literal[1:] if literal.startswith("~") else "~" + literal


def fives():
    return [some for some in range(1024) if bin(some).count("1") == 5]


class LargestTest(unittest.TestCase):
    def check_sets(self, t, *expected):
        """What there is of each kind, from admissible to stable."""
        for kind, found in enumerate(expected):
            self.assertEqual(many(kind, t), [0, len(found)])
            self.assertEqual(sets(kind, 0, 4294967295, t), [0] + found)

    def check_literals(self, t, expected):
        """The sums of some literals, the first and the last of all among them."""
        names = Slow(t).literals()
        for literal, total in expected.items():
            self.assertEqual(stands(names.index(literal), t), [0, total], literal)
        self.assertEqual(stands(len(names), t), [-1])

    def check_all(self, t, *expected):
        """For each how from 0 on, the literals."""
        names = Slow(t).literals()
        for how, literals in enumerate(expected):
            self.assertEqual(all_that(how, t), [0] + sorted(names.index(literal) for literal in literals))

    def check_first(self, t, *expected):
        """What first answers of each rule."""
        self.assertEqual([first(rule, t) for rule in range(10)], list(expected))
        self.assertEqual(first(10, t), [-1])

    def check_long_chain(self, t):
        self.assertEqual(ground(t), ALL_BUT_A)
        self.assertEqual(kinds(1022, t), [0, 127])
        self.assertEqual(kinds(1023, t), [0, 0])
        self.assertEqual(kinds(1, t), [0, 1])
        self.assertEqual(kinds(512, t), [0, 3])
        self.assertEqual(kinds(1024, t), [-1])
        # Nothing but a and i go against one another, and i is the heavier.
        self.check_sets(t, [some for some in range(1024) if some & 1 == 0], [1022], [1022], [1022])
        self.assertEqual(wide(t), [0, 1022])
        self.check_literals(t, {"a": 50, "~a": 77, "b": 77, "i": 77, "~i": 50, "p0": 77, "p53": 77,
                                "p9": 77, "~p9": 50})
        self.assertEqual(stands(127, t), [0, 50])
        held = ["~a"] + list(NAMES[1:]) + [f"p{k}" for k in range(54)]
        self.check_all(t, held, held, held, held)
        self.check_first(t, [0, 512], *[[-3]] * 9)

    def test_most_laws_rules_and_atoms(self):
        read = Slow(text(*long_chain()))
        self.assertEqual((len(read.laws), len(read.rules), len(read.atoms)), (64, 10, 64))
        self.check_long_chain(text(*long_chain()))

    def test_most_bytes(self):
        t = padded(long_chain() + ["weigh i > b", "weigh i > bb"], "i", "b", 8192)
        self.assertEqual(len(t), 8192)
        self.check_long_chain(t)

    def test_one_more_of_anything(self):
        lines = long_chain()
        for more in ("law last: -> ~p0", "rule j: => ~a", "law last: -> q"):
            self.assertEqual(Slow(text(*lines, more)).fault[0], 4)
            self.assertEqual(ground(text(*lines, more)), [-6])
        self.assertEqual(ground(text(*lines[:-1], "law last: p0 -> q")), [-6])
        self.assertEqual(ground(text(*lines[:-1], "law last: p0 -> ~p9")), [0, 511] + [1] * 9 + [0])

    def test_broad_laws(self):
        t = text(*broad_laws())
        self.assertGreater(len(t), 6144)
        self.assertEqual(ground(t), [0, 512] + [0] * 9 + [1])
        self.assertEqual(kinds(512, t), [0, 103])
        self.assertEqual(kinds(1023, t), [0, 0])
        self.assertEqual(kinds(0, t), [0, 3])
        self.assertEqual(kinds(511, t), [0, 1])
        self.assertEqual(kinds(513, t), [0, 1])
        for i in range(9):
            self.assertEqual(kinds(1023 - (1 << i), t), [0, 31])
        preferred = [1023 - (1 << i) for i in range(8, -1, -1)]
        self.check_sets(t, [0, 512] + preferred, [512] + preferred, preferred, preferred)
        self.assertEqual(wide(t), [0, 512])
        # What comes about without any rule, with all but one, with all ten alone.
        self.check_literals(t, {"i": 77, "~i": 50, "a": 4, "~a": 16, "b": 4, "~b": 16, "p00-234567890ab": 77,
                                "p05-234567890ab": 4, "p52-234567890ab": 0, "~p52-234567890ab": 0})
        begin = [f"p{k:02}-234567890ab" for k in range(5)]
        # With all but h, the last rule but one, the chain goes on for eight steps.
        held = list(NAMES) + begin + [f"p{k:02}-234567890ab" for k in range(5, 13)]
        self.check_all(t, ["i"] + begin, held, ["i"] + begin, ["i"] + begin)
        self.check_first(t, *[[0, 1023 - (1 << i)] for i in range(9)], [-3])

    def test_many_preferred_sets(self):
        heads = [sign + atom for atom in "pqsuv" for sign in ("", "~")]
        t = text(*[f"rule {name}: => {head}" for name, head in zip(NAMES, heads)])
        self.assertEqual(ground(t), [0] * 12)
        self.assertEqual(kinds(0, t), [0, 103])
        self.assertEqual(kinds(0b0101010101, t), [0, 31])
        self.assertEqual(kinds(0b1001100110, t), [0, 31])
        self.assertEqual(kinds(0b0001100110, t), [0, 7])
        self.assertEqual(kinds(0b0011100110, t), [0, 0])
        apart = [some for some in range(1024) if some & some >> 1 & 0b0101010101 == 0]
        preferred = [some for some in apart if (some | some >> 1) & 0b0101010101 == 0b0101010101]
        self.assertEqual((len(apart), len(preferred)), (243, 32))
        self.check_sets(t, apart, apart, preferred, preferred)
        self.assertEqual(wide(t), [0, 0])
        self.check_literals(t, {"a": 4, "~a": 16, "p": 20, "~v": 20})
        self.check_all(t, [], list(NAMES) + heads, [], [])
        self.check_first(t, *[[0, 1 << (i ^ 1)] for i in range(10)])

    def test_most_admissible_sets(self):
        t = text(*RULES)
        self.check_sets(t, list(range(1024)), [1023], [1023], [1023])
        self.assertEqual(wide(t), [0, 1023])
        self.check_literals(t, {"a": 77, "~a": 50, "i": 77, "~i": 50})
        self.check_all(t, NAMES, NAMES, NAMES, NAMES)
        self.check_first(t, *[[-3]] * 10)
        self.assertEqual(sets(0, 1023, 4294967295, t), [0, 1023])
        self.assertEqual(sets(0, 1024, 4294967295, t), [0])
        self.assertEqual(sets(0, 500, 3, t), [0, 500, 501, 502])

    def test_most_preferred_sets(self):
        t = text(*at_most_five())
        self.assertIsNone(Slow(t).fault)
        self.assertEqual(len(fives()), 252)
        self.check_sets(t, [0] + fives(), [0] + fives(), fives(), fives())
        self.assertEqual(wide(t), [0, 0])
        self.check_literals(t, {"a": 4, "z": 77, "~z": 50, "c11": 4, "c62": 4, "c95": 4, "~c95": 16})
        counted = [literal for literal in Slow(t).literals() if literal[0] != "~"]
        self.check_all(t, ["z"], counted, ["z"], ["z"])
        # Any five others are against a rule: the least number has the first of them.
        self.check_first(t, *[[0, 63 - (1 << i)] for i in range(5)], *[[0, 31]] * 5)

    def test_calls_do_not_go_deep(self):
        t = padded(long_chain() + ["weigh i > b", "weigh i > bb"], "i", "b", 8192)
        limit = sys.getrecursionlimit()
        sys.setrecursionlimit(len(inspect.stack()) + 40)
        try:
            told = ground(t)
            total = kinds(1022, t)
            count = many(2, t)
            found = sets(2, 0, 1, t)
            largest = wide(t)
            how = stands(127, t)
            held = all_that(0, t)
            striker = first(0, t)
        finally:
            sys.setrecursionlimit(limit)
        self.assertEqual(told, ALL_BUT_A)
        self.assertEqual(total, [0, 127])
        self.assertEqual(count, [0, 1])
        self.assertEqual(found, [0, 1022])
        self.assertEqual(largest, [0, 1022])
        self.assertEqual(how, [0, 50])
        self.assertEqual(held, [0, 1] + list(range(2, 128, 2)))
        self.assertEqual(striker, [0, 512])


if __name__ == "__main__":
    unittest.main()
