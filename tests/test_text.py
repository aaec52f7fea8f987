"""What is a case's text: each kind of fault, beside its nearest neighbour without one."""

import unittest

from helper import Slow, made_up_text, raw, text
from whatstands.moot import ground, kinds

N15 = "a23456789-12345"
N16 = N15 + "6"
ONE = "rule a: => p\n"
TWO = ONE + "rule b: => q\n"
SIX = "a, b, c, d, e, f"
TEN = [f"rule {name}: => {name}" for name in "abcdefghij"]
# Bytes at and beside the edges of what names and lines are made of.
TELLING = [0, 9, 10, 13, 31, 32, 33, 43, 44, 45, 46, 47, 48, 57, 58, 59, 60, 61, 62, 63, 64, 65, 90, 95, 96,
           97, 98, 112, 122, 123, 125, 126, 127, 128, 173, 225, 255]

NO_SUCH_LINE = (
    ("rule a: => p", ONE),
    (ONE + "rule b: => q", TWO),
    (ONE + "weigh", ONE),
    (ONE + " ", ONE),
    ("\n", ""),
    (" \n", ""),
    (ONE + "\n", ONE),
    ("\n" + ONE, ONE),
    ("rule a: => p\r\n", ONE),
    ("rule a: =>\tp\n", ONE),
    (" rule a: => p\n", ONE),
    ("rule a: => p \n", ONE),
    ("rule  a: => p\n", ONE),
    ("rule a:  => p\n", ONE),
    ("rule a: =>  p\n", ONE),
    ("rule a:=> p\n", ONE),
    ("rule a: =>p\n", ONE),
    ("rulea: => p\n", ONE),
    ("rule a : => p\n", ONE),
    ("rule a => p\n", ONE),
    ("rule : => p\n", ONE),
    ("rule => p\n", ONE),
    ("rule a:: => p\n", ONE),
    ("rule a: =>\n", ONE),
    ("rule a: => p q\n", ONE),
    ("rule a: => p, q\n", ONE),
    ("rule a: => p,\n", ONE),
    ("rule a: p\n", ONE),
    ("rule a: -> p\n", ONE),
    ("rule a: = > p\n", ONE),
    ("rule a: => => p\n", ONE),
    ("law a: => p\n", "law a: -> p\n"),
    ("law a: - > p\n", "law a: -> p\n"),
    ("law ~a: -> p\n", "law a: -> p\n"),
    ("rule ~a: => p\n", ONE),
    ("Rule a: => p\n", ONE),
    ("rules a: => p\n", ONE),
    ("laws a: -> p\n", "law a: -> p\n"),
    ("a: => p\n", ONE),
    ("rule A: => p\n", ONE),
    ("rule a: => P\n", ONE),
    ("rule 1a: => p\n", "rule a1: => p\n"),
    ("rule -a: => p\n", "rule a-: => p\n"),
    ("rule a: => 1p\n", "rule a: => p1\n"),
    ("rule a: => -p\n", "rule a: => p-\n"),
    ("rule a_b: => p\n", "rule a-b: => p\n"),
    ("rule a: => ~\n", "rule a: => ~p\n"),
    ("rule a: => ~~p\n", "rule a: => ~p\n"),
    ("rule a: => p~\n", "rule a: => ~p\n"),
    ("rule a: => ~ p\n", "rule a: => ~p\n"),
    ("rule a: p q => s\n", "rule a: p, q => s\n"),
    ("rule a: p,q => s\n", "rule a: p, q => s\n"),
    ("rule a: p , q => s\n", "rule a: p, q => s\n"),
    ("rule a: p,, q => s\n", "rule a: p, q => s\n"),
    ("rule a: p, , q => s\n", "rule a: p, q => s\n"),
    ("rule a: , q => s\n", "rule a: q => s\n"),
    ("rule a: p, q, => s\n", "rule a: p, q => s\n"),
    ("rule a: p, => s\n", "rule a: p => s\n"),
    ("rule a: p,  q => s\n", "rule a: p, q => s\n"),
    ("rule a: p, q  => s\n", "rule a: p, q => s\n"),
    ("rule a: p; q => s\n", "rule a: p, q => s\n"),
    (f"law k: {SIX}, g -> p\n", f"law k: {SIX} -> p\n"),
    (f"rule k: {SIX}, g => p\n", f"rule k: {SIX} => p\n"),
    (f"law {N16}: -> p\n", f"law {N15}: -> p\n"),
    (f"rule {N16}: => p\n", f"rule {N15}: => p\n"),
    (f"law k: {N16} -> p\n", f"law k: {N15} -> p\n"),
    (f"law k: q, ~{N16} -> p\n", f"law k: q, ~{N15} -> p\n"),
    (f"law k: {N16}, q -> p\n", f"law k: {N15}, q -> p\n"),
    (f"rule k: => {N16}\n", f"rule k: => {N15}\n"),
    (f"rule k: => ~{N16}\n", f"rule k: => ~{N15}\n"),
    (ONE + f"rule {N15}: => q\nweigh {N16} > a\n", ONE + f"rule {N15}: => q\nweigh {N15} > a\n"),
    (ONE + f"rule {N15}: => q\nweigh a > {N16}\n", ONE + f"rule {N15}: => q\nweigh a > {N15}\n"),
    (TWO + "weigh a < b\n", TWO + "weigh a > b\n"),
    (TWO + "weigh a -> b\n", TWO + "weigh a > b\n"),
    (TWO + "weigh a >> b\n", TWO + "weigh a > b\n"),
    (TWO + "weigh a b\n", TWO + "weigh a > b\n"),
    (TWO + "weigh a >b\n", TWO + "weigh a > b\n"),
    (TWO + "weigh a> b\n", TWO + "weigh a > b\n"),
    (TWO + "weigh a >\n", TWO + "weigh a > b\n"),
    (TWO + "weigh > b\n", TWO + "weigh a > b\n"),
    (TWO + "weigh a: > b\n", TWO + "weigh a > b\n"),
    (TWO + "weigh ~a > b\n", TWO + "weigh a > b\n"),
    (TWO + "weigh a > b > a\n", TWO + "weigh a > b\n"),
    (TWO + "weigh a  > b\n", TWO + "weigh a > b\n"),
    (TWO + "weigh a > b \n", TWO + "weigh a > b\n"),
    (TWO + "weigh  a > b\n", TWO + "weigh a > b\n"),
)

NAME_TAKEN = (
    ("law k: -> p\nlaw k: -> q\n", "law k: -> p\nlaw l: -> q\n"),
    ("rule k: => p\nrule k: => q\n", "rule k: => p\nrule kk: => q\n"),
    ("law k: -> p\nrule k: => q\n", "law k: -> p\nrule k-: => q\n"),
    ("rule k: => p\nlaw k: -> q\n", "rule k: => p\nlaw p: -> q\n"),
    (ONE + "rule b: => q\nweigh a > b\nlaw b: -> s\n", ONE + "rule b: => q\nweigh a > b\nlaw q: -> s\n"),
)

SAID_TWICE = (
    ("law k: p, p -> q\n", "law k: p, ~p -> q\n"),
    ("rule k: p, s, p => q\n", "rule k: p, s, ~p => q\n"),
    ("rule k: ~p, ~p => q\n", "rule k: ~p, p => q\n"),
    ("law k: a, b, c, d, e, a -> p\n", "law k: a, b, c, d, e, p -> p\n"),
    ("law k: -> p\nlaw l: -> p\n", "law k: -> p\nlaw l: -> ~q\n"),
    ("rule k: => p\nrule l: => p\n", "rule k: => p\nlaw l: -> p\n"),
    ("rule k: => ~p\nrule l: => ~p\n", "rule k: => ~p\nrule l: => p\n"),
    ("law k: p, q -> s\nlaw l: p, q -> s\n", "law k: p, q -> s\nlaw l: q, p -> s\n"),
    ("rule k: p, q => s\nrule l: p, q => s\n", "rule k: p, q => s\nrule l: q, p => s\n"),
    ("rule k: p, q => s\nrule l: p, q => s\n", "rule k: p, q => s\nlaw l: p, q -> s\n"),
    ("law k: p, q -> s\nlaw l: p, q -> s\n", "law k: p, q -> s\nlaw l: p, ~q -> s\n"),
    ("law k: p -> s\nlaw m: -> q\nlaw l: p -> s\n", "law k: p -> s\nlaw m: -> q\nlaw l: p -> ~s\n"),
)

NO_RULES_NAME = (
    ("weigh a > b\n" + TWO, TWO + "weigh a > b\n"),
    (ONE + "weigh a > b\nrule b: => q\n", TWO + "weigh a > b\n"),
    (ONE + "weigh b > a\nrule b: => q\n", TWO + "weigh b > a\n"),
    (ONE + "weigh a > p\n", ONE + "rule p: => q\nweigh a > p\n"),
    (ONE + "weigh p > a\n", ONE + "rule p: => q\nweigh p > a\n"),
    (ONE + "law k: -> q\nweigh a > k\n", ONE + "rule k: => q\nweigh a > k\n"),
    (ONE + "law k: -> q\nweigh k > a\n", ONE + "rule k: => q\nweigh k > a\n"),
    (ONE + "weigh c > c\n", ONE),
)

OUTWEIGHS_ITSELF = (
    (ONE + "weigh a > a\n", TWO + "weigh a > b\n"),
    (TWO + "weigh a > b\nweigh b > a\n", TWO + "weigh a > b\nweigh a > b\n"),
    (TWO + "rule c: => s\nweigh a > b\nweigh b > c\nweigh c > a\n",
     TWO + "rule c: => s\nweigh a > b\nweigh b > c\nweigh a > c\n"),
    (TWO + "rule c: => s\nweigh b > c\nweigh c > a\nweigh a > b\n",
     TWO + "rule c: => s\nweigh b > c\nweigh c > a\nweigh b > a\n"),
    (TWO + "rule c: => s\nweigh a > b\nweigh b > c\nweigh c > b\n",
     TWO + "rule c: => s\nweigh a > b\nweigh b > c\nweigh b > c\n"),
)

LAWS_CLASH = (
    ("law k: -> p\nlaw l: -> ~p\n", "law k: -> p\nlaw l: -> ~q\n"),
    ("law k: -> ~p\nlaw l: -> p\n", "law k: -> ~p\nrule l: => p\n"),
    ("law k: p -> ~p\nlaw l: -> p\n", "law k: p -> ~p\nlaw l: -> ~p\n"),
    ("law k: q -> ~p\nlaw l: -> p\nlaw m: -> q\n", "law k: q -> ~p\nlaw l: -> p\nlaw m: s -> q\n"),
    ("law k: q, s -> ~p\nlaw l: -> p\nlaw m: -> q\nlaw n: p -> s\n",
     "law k: q, s -> ~p\nlaw l: -> p\nlaw m: -> q\nlaw n: ~p -> s\n"),
    ("rule a: => q\nlaw k: -> p\nlaw l: -> ~p\n", "rule a: => q\nlaw k: -> p\nlaw l: a -> ~p\n"),
    ("rule a: => q\nlaw k: -> a\nlaw l: -> ~a\n", "rule a: => q\nlaw l: -> ~a\n"),
    ("law k: -> a\nlaw l: a -> ~p\nlaw m: -> p\n", "law k: -> q\nlaw l: a -> ~p\nlaw m: -> p\n"),
)


def ring(count):
    """Weights from each of the first ten letters to the following one, count of them, round to the first."""
    letters = "abcdefghij"
    return [f"weigh {letters[k]} > {letters[(k + 1) % 10]}" for k in range(count)]


class TextTest(unittest.TestCase):
    def check_fault(self, kind, t):
        self.assertEqual(Slow(t).fault[0], kind)
        self.assertEqual(ground(t), [-6])
        self.assertEqual(kinds(0, t), [-6])

    def check_fine(self, t):
        self.assertIsNone(Slow(t).fault)
        self.assertEqual(ground(t)[0], 0)
        self.assertEqual(kinds(0, t)[0], 0)

    def check_all(self, kind, pairs):
        for faulty, neighbour in pairs:
            with self.subTest(faulty):
                self.check_fault(kind, raw(faulty))
            with self.subTest(neighbour):
                self.check_fine(raw(neighbour))

    def test_kind_1_no_such_line(self):
        self.check_all(1, NO_SUCH_LINE)

    def test_kind_2_name_taken(self):
        self.check_all(2, NAME_TAKEN)

    def test_kind_3_said_twice(self):
        self.check_all(3, SAID_TWICE)

    def test_kind_4_laws(self):
        laws = [f"law l{k}: p -> q{k % 8}{k // 8}" for k in range(56)] + [f"law m{k}: ~p -> q{k}0" for k in range(8)]
        self.check_fine(text(*laws))
        self.check_fault(4, text(*laws, "law last: ~p -> p"))
        self.check_fine(text(*laws[1:], "law last: ~p -> p"))
        self.check_fine(text(*laws, "rule last: ~p => p"))

    def test_kind_4_rules(self):
        self.check_fine(text(*TEN))
        self.check_fault(4, text(*TEN, "rule k: => k"))
        self.check_fine(text(*TEN[1:], "rule k: => k"))
        self.check_fine(text(*TEN, "law k: -> k"))

    def test_kind_4_atoms(self):
        atoms = [f"q{k}" for k in range(63)]
        laws = [f"law l{k // 7}: {', '.join(atoms[k:k + 6])} -> {atoms[k + 6]}" for k in range(0, 63, 7)]
        self.check_fine(text(*laws, "law m: -> p"))
        self.check_fine(text(*laws, "law m: p -> ~p"))
        self.check_fine(text(*laws, "law m: p -> ~p", "law n: ~q0, q1 -> q2"))
        self.check_fault(4, text(*laws, "law m: p -> s"))
        self.check_fault(4, text(*laws, "law m: p, s -> q0"))
        self.check_fault(4, text(*laws, "law m: -> p", "law n: -> s"))
        # A rule's name is an atom, told once or more; a law's isn't.
        self.check_fine(text(*laws, "rule r: => q0"))
        self.check_fine(text(*laws, "rule r: => r"))
        self.check_fine(text(*laws, "rule r: => ~r", "rule q1: r => q2"))
        self.check_fault(4, text(*laws, "rule r: => p"))
        self.check_fault(4, text(*laws, "rule r: => q0", "rule s: q0 => q1"))

    def test_kind_4_atoms_with_ten_rules(self):
        atoms = [f"q{k}" for k in range(54)]
        laws = [f"law l{k // 6}: {', '.join(atoms[k:k + 5])} -> {atoms[k + 5]}" for k in range(0, 54, 6)]
        self.check_fine(text(*TEN, *laws))
        self.check_fine(text(*laws, *TEN))
        self.check_fault(4, text(*TEN, *laws, "law m: -> p"))
        self.check_fault(4, text("law m: -> p", *laws, *TEN))

    def test_kind_5_no_rules_name(self):
        self.check_all(5, NO_RULES_NAME)

    def test_kind_6_outweighs_itself(self):
        self.check_all(6, OUTWEIGHS_ITSELF)

    def test_kind_6_in_ten_steps(self):
        self.check_fine(text(*TEN, *ring(9)))
        self.check_fine(text(*TEN, *ring(10)[1:]))
        self.check_fault(6, text(*TEN, *ring(10)))
        self.check_fault(6, text(*TEN, *ring(10)[::-1]))
        self.check_fault(6, text(*TEN, *ring(10)[::2], *ring(10)[1::2]))

    def test_kind_6_of_some_rules_only(self):
        # The ring lies between d and f, with rules above and below it.
        self.check_fine(text(*TEN, *ring(9), "weigh d > f"))
        self.check_fault(6, text(*TEN, *ring(9), "weigh f > d"))
        self.check_fault(6, text(*TEN, "weigh f > d", *ring(9)))

    def test_kind_7_laws_clash(self):
        self.check_all(7, LAWS_CLASH)

    def test_kind_7_through_every_law(self):
        chain = [f"law l{k}: p{k} -> p{k + 1}" for k in range(60)] + ["law m: -> ~p60"]
        self.check_fine(text(*chain))
        self.check_fault(7, text(*chain, "law n: -> p0"))
        self.check_fault(7, text("law n: -> p0", *chain))
        self.check_fault(7, text(*chain[::-1], "law n: -> p0"))
        self.check_fine(text(*chain[:30], *chain[31:], "law n: -> p0"))

    def test_fault_in_any_line(self):
        lines = ["law k: -> p", "rule a: p => q", "rule b: => ~q", "weigh a > b", "law l: q -> s"]
        self.check_fine(text(*lines))
        for place in range(len(lines) + 1):
            self.check_fault(1, text(*lines[:place], "rule  c: => s", *lines[place:]))

    def test_text_cut_off(self):
        t = text("law k: p, ~q -> s", "rule a: => p", "rule b: a => ~p", "weigh a > b")
        for size in range(len(t) + 1):
            if size == 0 or t[size - 1] == 10:
                self.check_fine(t[:size])
            else:
                self.check_fault(1, t[:size])

    def test_one_byte_off(self):
        t = text("law k: p, ~q -> s", "rule a: => p", "rule b: a => ~p", "weigh a > b")
        for place in range(len(t) + 1):
            changed = [t[:place] + [byte] + t[place:] for byte in TELLING]
            changed += [t[:place] + [byte] + t[place + 1:] for byte in TELLING]
            changed.append(t[:place] + t[place + 1:])
            for other in changed:
                fine = Slow(other).fault is None
                self.assertEqual(ground(other)[0], 0 if fine else -6, bytes(other))

    def test_every_byte_as_a_name(self):
        for byte in range(256):
            alone = raw("rule a: => ") + [byte, 10]
            behind = raw("rule a: => p") + [byte, 10]
            letter = 97 <= byte <= 122
            self.assertEqual(ground(alone)[0], 0 if letter else -6)
            self.assertEqual(ground(behind)[0], 0 if letter or 48 <= byte <= 57 or byte == 45 else -6)

    def test_against_the_second_reading(self):
        met = set()
        for seed in range(1500):
            t = made_up_text(seed, 5)
            fault = Slow(t).fault
            met.add(fault and fault[0])
            self.assertEqual(ground(t)[0], -6 if fault else 0, bytes(t))
        self.assertLessEqual({None, 3, 7}, met)


if __name__ == "__main__":
    unittest.main()
