"""The refusals and their order, and what a call does besides answering: nothing."""

import contextlib
import inspect
import io
import unittest

from helper import made_up_cases, padded, raw, text
from whatstands.moot import all_that, first, ground, kinds, many, sets, stands, wide

HIGHEST = 4294967295
RULES = ("rule a: => p", "rule b: => ~p", "rule bb: => q")

# One text for each kind of fault.
FAULTY = [
    raw("rule a: => p"),
    text("rule  a: => p"),
    text(*RULES, "law a: -> s"),
    text("law k: p, p -> q"),
    text(*[f"rule {name}: => {name}" for name in "abcdefghijk"]),
    text(*RULES, "weigh a > p"),
    text(*RULES, "weigh a > a"),
    text("law k: -> p", "law l: -> ~p"),
]

# The calls that take a number besides the text, as functions of both.
NUMBERED = [
    ("kinds", kinds),
    ("many", many),
    ("sets", lambda kind, t: sets(kind, 0, HIGHEST, t)),
    ("stands", stands),
    ("all_that", all_that),
    ("first", first),
]

# By each such call the least number that's refused with RULES alone.
LIMITS = {"kinds": 8, "many": 4, "sets": 4, "stands": 10, "all_that": 4, "first": 3}

# Calls that answer 0 and one number, unless they refuse.
ONE_NUMBER = ("kinds", "many", "wide", "stands", "first")


def handing_in(call, number):
    return lambda t: call(number, t)


# Every call as a function of the text alone, with numbers that all cases have and such as only some have.
CALLS = [("ground", ground), ("wide", wide)]
CALLS += [(name, handing_in(call, number)) for name, call in NUMBERED for number in (0, 1)]


class Sealed(list):
    """A list that can be read and not be changed."""

    def refuse(self, *given, **named):
        raise AssertionError("what is handed in was changed")

    __setitem__ = __delitem__ = __iadd__ = __imul__ = refuse
    append = clear = extend = insert = pop = remove = reverse = sort = refuse


class RefusalTest(unittest.TestCase):
    def check_each(self, expected, t):
        for name, call in CALLS:
            with self.subTest(name):
                self.assertEqual(call(t), expected)

    def test_size(self):
        t = padded(RULES, "a", "b", 8192)
        self.assertEqual(len(t), 8192)
        for name, call in CALLS:
            with self.subTest(name):
                self.assertIn(call(t)[0], (0, -3))
                self.assertEqual(call(t), call(text(*RULES, "weigh a > b", "weigh a > bb")))
        self.assertEqual(ground(t), [0, 5, 1, 0, 1])
        self.assertEqual(kinds(5, t), [0, 127])
        for size in (8193, 8194, 8299, 8300):
            t = padded(RULES, "a", "b", size)
            self.assertEqual(len(t), size)
            self.check_each([-1], t)

    def test_size_goes_before_the_text(self):
        for byte in (0, 10, 32, 97, 255):
            self.check_each([-6], [byte] * 8192)
            self.check_each([-1], [byte] * 8193)

    def test_size_counts_before_where_the_fault_stands(self):
        t = padded(RULES, "a", "b", 8192)
        self.check_each([-1], t + [97])
        self.check_each([-1], [97] + t)
        self.check_each([-6], [97] + t[1:])
        self.check_each([-6], t[:-1] + [97])

    def test_text_with_a_fault(self):
        for t in FAULTY:
            self.check_each([-6], t)

    def test_text_goes_before_the_number(self):
        for t in FAULTY:
            for name, call in NUMBERED:
                for number in (0, 1, 4, 8, HIGHEST):
                    with self.subTest(name):
                        self.assertEqual(call(number, t), [-6])

    def test_number(self):
        t = text(*RULES)
        for name, call in NUMBERED:
            with self.subTest(name):
                limit = LIMITS[name]
                self.assertIn(call(limit - 1, t)[0], (0, -3))
                for number in (limit, limit + 1, 255, 1024, 65536, 1 << 31, HIGHEST - 7, HIGHEST):
                    self.assertEqual(call(number, t), [-1])

    def test_set(self):
        t = text(*RULES)
        for some in range(8):
            self.assertEqual(kinds(some, t)[0], 0)
        for some in (8, 9, 15, 16, 255, 1024, 65536, 1 << 31, 4294967288, HIGHEST):
            self.assertEqual(kinds(some, t), [-1])
        self.assertEqual(kinds(1, []), [-1])
        self.assertEqual(kinds(1, text("law k: -> p")), [-1])

    def test_literal(self):
        t = text(*RULES)
        for literal in range(10):
            self.assertEqual(stands(literal, t)[0], 0)
        self.assertEqual(stands(10, t), [-1])
        for literal in (0, 1, HIGHEST):
            self.assertEqual(stands(literal, []), [-1])

    def test_rule(self):
        t = text(*RULES)
        self.assertEqual([first(rule, t) for rule in range(4)], [[0, 2], [0, 1], [-3], [-1]])
        for rule in (0, 1, HIGHEST):
            self.assertEqual(first(rule, []), [-1])
            self.assertEqual(first(rule, text("law k: -> p")), [-1])

    def test_there_is_none(self):
        # A rule of the ground, with each reason that goes before.
        t = padded(RULES, "a", "b", 8192)
        self.assertEqual(first(0, t), [-3])
        self.assertEqual(first(2, t), [-3])
        self.assertEqual(first(3, t), [-1])
        self.assertEqual(first(0, t[:-1]), [-6])
        self.assertEqual(first(0, padded(RULES, "a", "b", 8193)), [-1])

    def test_all_reasons_at_once(self):
        for name, call in NUMBERED:
            with self.subTest(name):
                self.assertEqual(call(HIGHEST, [97] * 8300), [-1])
                self.assertEqual(call(HIGHEST, [97] * 8192), [-6])
                self.assertEqual(call(HIGHEST, padded(RULES, "a", "b", 8193)), [-1])
                self.assertEqual(call(HIGHEST, padded(RULES, "a", "b", 8192)), [-1])


class CallTest(unittest.TestCase):
    def texts(self):
        return made_up_cases(40, 5) + [[], text(*RULES), [97] * 8193] + FAULTY

    def test_what_is_handed_in_stays(self):
        for t in self.texts():
            for name, call in CALLS:
                sealed = Sealed(t)
                call(sealed)
                self.assertEqual(list(sealed), t)

    def test_a_call_made_twice_answers_the_same(self):
        texts = self.texts()
        once = [[call(t) for name, call in CALLS] for t in texts]
        again = [[call(t) for name, call in reversed(CALLS)][::-1] for t in reversed(texts)]
        self.assertEqual(once, again[::-1])

    def test_an_answer_is_the_callers_own(self):
        for t in self.texts():
            for name, call in CALLS:
                given = call(t)
                kept = list(given)
                given.clear()
                self.assertEqual(call(t), kept)

    def test_answers_are_lists_of_whole_numbers(self):
        for t in self.texts():
            for name, call in CALLS:
                given = call(t)
                self.assertIs(type(given), list)
                self.assertEqual({type(number) for number in given}, {int})

    def test_answers_begin_with_0_or_are_a_refusal_alone(self):
        for t in self.texts():
            for name, call in CALLS:
                given = call(t)
                with self.subTest(name):
                    self.assertIn(given[0], (0, -1, -3, -6))
                    if given[0] < 0:
                        self.assertEqual(len(given), 1)
                    elif name in ONE_NUMBER:
                        self.assertEqual(len(given), 2)
                    self.assertTrue(all(number >= 0 for number in given[1:]))

    def test_length_of_ground(self):
        for t in self.texts():
            given = ground(t)
            rules = sum(line.startswith("rule") for line in bytes(t).decode().split("\n"))
            self.assertEqual(len(given), 1 if given[0] < 0 else 2 + rules)

    def test_nothing_is_printed(self):
        shown = io.StringIO()
        with contextlib.redirect_stdout(shown), contextlib.redirect_stderr(shown):
            for t in self.texts():
                for name, call in CALLS:
                    call(t)
        self.assertEqual(shown.getvalue(), "")

    def test_names_of_what_is_handed_in(self):
        t = text(*RULES)
        self.assertEqual(ground(t=t), ground(t))
        self.assertEqual(kinds(some=3, t=t), kinds(3, t))
        self.assertEqual(many(kind=1, t=t), many(1, t))
        self.assertEqual(sets(kind=1, start=0, most=2, t=t), sets(1, 0, 2, t))
        self.assertEqual(wide(t=t), wide(t))
        self.assertEqual(stands(literal=3, t=t), stands(3, t))
        self.assertEqual(all_that(how=1, t=t), all_that(1, t))
        self.assertEqual(first(rule=1, t=t), first(1, t))

    def test_the_order_in_which_it_is_handed_in(self):
        expected = {ground: ["t"], kinds: ["some", "t"], many: ["kind", "t"], sets: ["kind", "start", "most", "t"],
                    wide: ["t"], stands: ["literal", "t"], all_that: ["how", "t"], first: ["rule", "t"]}
        for call, names in expected.items():
            self.assertEqual(list(inspect.signature(call).parameters), names)


if __name__ == "__main__":
    unittest.main()
