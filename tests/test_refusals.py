"""The refusals and their order, and what a call does besides answering: nothing."""

import contextlib
import io
import unittest

from helper import made_up_cases, padded, raw, text
from whatstands.moot import ground, kinds

RULES = ("rule a: => p", "rule b: => ~p", "rule bb: => q")


class Sealed(list):
    """A list that can be read and not be changed."""

    def refuse(self, *given, **named):
        raise AssertionError("what is handed in was changed")

    __setitem__ = __delitem__ = __iadd__ = __imul__ = refuse
    append = clear = extend = insert = pop = remove = reverse = sort = refuse


class RefusalTest(unittest.TestCase):
    def test_size(self):
        t = padded(RULES, "a", "b", 8192)
        self.assertEqual(len(t), 8192)
        self.assertEqual(ground(t), [0, 5, 1, 0, 1])
        self.assertEqual(kinds(5, t), [0, 127])
        for size in (8193, 8194, 8299, 8300):
            t = padded(RULES, "a", "b", size)
            self.assertEqual(len(t), size)
            self.assertEqual(ground(t), [-1])
            self.assertEqual(kinds(5, t), [-1])

    def test_size_goes_before_the_text(self):
        for byte in (0, 10, 32, 97, 255):
            self.assertEqual(ground([byte] * 8192), [-6])
            self.assertEqual(kinds(0, [byte] * 8192), [-6])
            self.assertEqual(ground([byte] * 8193), [-1])
            self.assertEqual(kinds(0, [byte] * 8193), [-1])

    def test_size_counts_before_where_the_fault_stands(self):
        t = padded(RULES, "a", "b", 8192)
        self.assertEqual(ground(t + [97]), [-1])
        self.assertEqual(ground([97] + t), [-1])
        self.assertEqual(ground([97] + t[1:]), [-6])
        self.assertEqual(ground(t[:-1] + [97]), [-6])

    def test_text_goes_before_the_set(self):
        for some in (0, 1, 8, 4294967295):
            self.assertEqual(kinds(some, raw("rule a: => p")), [-6])
            self.assertEqual(kinds(some, text("law k: -> p", "law l: -> ~p")), [-6])
            self.assertEqual(kinds(some, text(*RULES, "weigh a > a")), [-6])

    def test_set(self):
        t = text(*RULES)
        for some in range(8):
            self.assertEqual(kinds(some, t)[0], 0)
        for some in (8, 9, 15, 16, 255, 1024, 65536, 1 << 31, 4294967288, 4294967295):
            self.assertEqual(kinds(some, t), [-1])
        self.assertEqual(kinds(1, []), [-1])
        self.assertEqual(kinds(1, text("law k: -> p")), [-1])

    def test_all_reasons_at_once(self):
        self.assertEqual(kinds(4294967295, [97] * 8300), [-1])
        self.assertEqual(kinds(4294967295, [97] * 8192), [-6])


class CallTest(unittest.TestCase):
    def texts(self):
        return made_up_cases(40, 5) + [[], text(*RULES), raw("rule a: => p"), [97] * 8193, text("law k: p, p -> q")]

    def test_what_is_handed_in_stays(self):
        for t in self.texts():
            sealed = Sealed(t)
            ground(sealed)
            kinds(0, sealed)
            kinds(1, sealed)
            self.assertEqual(list(sealed), t)

    def test_a_call_made_twice_answers_the_same(self):
        texts = self.texts()
        once = [(ground(t), kinds(0, t), kinds(1, t)) for t in texts]
        again = [(ground(t), kinds(0, t), kinds(1, t)) for t in reversed(texts)]
        self.assertEqual(once, again[::-1])

    def test_an_answer_is_the_callers_own(self):
        for t in self.texts():
            for call in (ground, lambda t: kinds(0, t)):
                given = call(t)
                kept = list(given)
                given.clear()
                self.assertEqual(call(t), kept)

    def test_answers_are_lists_of_whole_numbers(self):
        for t in self.texts():
            for given in (ground(t), kinds(0, t), kinds(1, t)):
                self.assertIs(type(given), list)
                self.assertEqual({type(number) for number in given}, {int})

    def test_length_of_answers(self):
        for t in self.texts():
            given = ground(t)
            rules = sum(line.startswith("rule") for line in bytes(t).decode().split("\n"))
            self.assertEqual(len(given), 1 if given[0] < 0 else 2 + rules)
            for given in (kinds(0, t), kinds(1, t)):
                self.assertEqual(len(given), 1 if given[0] < 0 else 2)

    def test_nothing_is_printed(self):
        shown = io.StringIO()
        with contextlib.redirect_stdout(shown), contextlib.redirect_stderr(shown):
            for t in self.texts():
                ground(t)
                kinds(1, t)
        self.assertEqual(shown.getvalue(), "")

    def test_names_of_what_is_handed_in(self):
        t = text(*RULES)
        self.assertEqual(ground(t=t), ground(t))
        self.assertEqual(kinds(some=3, t=t), kinds(3, t))


if __name__ == "__main__":
    unittest.main()
