"""What the tests share: texts as lists of bytes, cases made up by counting, and a slow second reading.

The second reading takes every definition of the document as it stands, over
names and Python's own sets, and shares nothing with the program.
"""

import re
from itertools import combinations

NAME = "[a-z][a-z0-9-]{0,14}"
LITERAL = "~?" + NAME
BODY = f"((?:{LITERAL}, ){{0,5}}{LITERAL} )?"
FORMS = (
    ("law", re.compile(f"law ({NAME}): {BODY}-> ({LITERAL})")),
    ("rule", re.compile(f"rule ({NAME}): {BODY}=> ({LITERAL})")),
    ("weigh", re.compile(f"weigh ({NAME}) > ({NAME})")),
)


def text(*lines):
    """The lines as a text's list of bytes, each ended by a line feed."""
    return raw("".join(line + "\n" for line in lines))


def raw(words):
    """The signs as a list of bytes, as they stand."""
    return list(words.encode("latin-1"))


def padded(lines, heavier, lighter, size):
    """A text of just that many bytes: the lines, and weights told again of rules among them.

    heavier and lighter are two rules' names of 1 byte; lighter + lighter must be a rule's name too.
    """
    t = text(*lines)
    short = f"weigh {heavier} > {lighter}"
    longer = short + lighter
    missing = size - len(t)
    for of_longer in range(12):
        rest = missing - 13 * of_longer
        if rest >= 0 and rest % 12 == 0:
            return t + text(*([longer] * of_longer + [short] * (rest // 12)))
    raise ValueError("no such size")


FOES = ("rule a: => p", "rule b: => ~p")
# a and b go against one another, and each of them against c, which d goes against.
APART = ("law k: a -> ~c", "law l: b -> ~c") + FOES + ("rule c: => s", "rule d: => ~s")
# d by itself goes against c too, so a preferred set has a or b, and d.
SELF_MADE = APART + ("weigh a > c", "weigh b > c")
# As before, but d needs a or b against c.
HELPED = SELF_MADE + ("weigh c > d",)
TRIO = ("law k: p, q -> ~s", "rule a: => p", "rule b: => q", "rule c: => s")
CHAIN = tuple(f"rule r{k}: => ~r{k - 1}" for k in range(1, 6)) + tuple(
    f"weigh r{k} > r{k - 1}" for k in range(2, 6))

# Cases worked out by hand, told line by line.
TOLD = (
    (),
    ("law a: -> p",),
    ("law a: -> p", "law b: p -> ~q"),
    ("rule a: => p",),
    ("rule a: => p", "rule b: p => q", "rule c: ~q, q => ~s"),
    FOES,
    FOES + ("rule c: => q",),
    FOES + ("weigh a > b",),
    FOES + ("weigh b > a",),
    ("rule a: => ~p", "rule b: => q", "rule c: => p", "weigh c > b", "weigh b > a"),
    ("law k: -> ~p", "rule a: => p"),
    ("rule a: => ~a", "rule b: => a"),
    ("rule a: => q", "rule b: q => p", "rule c: q => ~p"),
    FOES + ("rule c: => ~b", "weigh c > b", "weigh b > a"),
    TRIO,
    TRIO + ("weigh a > c",),
    TRIO + ("weigh a > b", "weigh c > b"),
    SELF_MADE,
    HELPED,
    CHAIN,
    ("rule z: => p", "rule m: => ~p", "rule a: => ~m", "weigh a > m", "weigh m > z"),
)


class Slow:
    """The second reading of a text. fault: None, or the kind and the place of the text's fault."""

    def __init__(self, t):
        self.laws = {}
        self.rules = {}
        self.weights = set()
        self.atoms = set()
        self.fault = self.read(bytes(t).decode("latin-1"))
        self.names = sorted(self.rules)
        self.known = {}

    def read(self, words):
        place = 0
        while place < len(words):
            end = words.find("\n", place)
            if end < 0:
                return (1, len(words))
            kind = self.read_line(words[place:end])
            if kind:
                return (kind, place)
            place = end + 1
        return None

    def read_line(self, line):
        for sort, form in FORMS:
            match = form.fullmatch(line)
            if match and sort == "weigh":
                return self.read_weight(match.group(1), match.group(2))
            if match:
                body = (match.group(2) or "").strip()
                literals = tuple(body.split(", ")) if body else ()
                return self.read_claim(sort, match.group(1), literals, match.group(3))
        return 1

    def read_weight(self, heavier, lighter):
        if heavier not in self.rules or lighter not in self.rules:
            return 5
        self.weights.add((heavier, lighter))
        return 6 if any(self.outweighs(name, name) for name in self.rules) else 0

    def read_claim(self, sort, name, body, head):
        peers = self.laws if sort == "law" else self.rules
        if name in self.laws or name in self.rules:
            return 2
        if len(set(body)) < len(body) or (body, head) in peers.values():
            return 3
        peers[name] = (body, head)
        self.atoms |= {literal.lstrip("~") for literal in body + (head,)}
        if sort == "rule":
            self.atoms.add(name)
        if len(self.laws) > 64 or len(self.rules) > 10 or len(self.atoms) > 64:
            return 4
        return 7 if sort == "law" and self.clashes_anew(frozenset()) else 0

    def outweighs(self, heavier, lighter):
        reached = set()
        more = {heavier}
        while more:
            more = {y for x, y in self.weights if x in more} - reached
            reached |= more
        return lighter in reached

    def follows(self, some):
        held = set(some)
        steps = list(self.laws.values()) + [self.rules[name] for name in some]
        for again in steps:
            held |= {head for body, head in steps if set(body) <= held}
        return held

    def clashes_anew(self, some):
        held = self.follows(some)
        return any("~" + literal in held for literal in held)

    def clashes(self, some):
        if some not in self.known:
            self.known[some] = self.clashes_anew(some)
        return self.known[some]

    def subsets(self, names):
        return [frozenset(part) for many in range(len(names) + 1) for part in combinations(sorted(names), many)]

    def strikes(self, some, rule):
        key = (some, rule)
        if key not in self.known:
            self.known[key] = any(
                rule not in part
                and not any(self.outweighs(rule, other) for other in part)
                and not self.clashes(part)
                and self.clashes(part | {rule})
                for part in self.subsets(some)
            )
        return self.known[key]

    def defends(self, some, rule):
        return all(
            any(self.strikes(some, other) for other in against)
            for against in self.subsets(self.names)
            if self.strikes(against, rule)
        )

    def free(self, some):
        return not any(self.strikes(some, rule) for rule in some)

    def admissible(self, some):
        return self.free(some) and all(self.defends(some, rule) for rule in some)

    def complete(self, some):
        return self.admissible(some) and all(rule in some for rule in self.names if self.defends(some, rule))

    def stable(self, some):
        return self.free(some) and all(self.strikes(some, rule) for rule in self.names if rule not in some)

    def ranks(self):
        ranks = {}
        some = frozenset()
        for number in range(1, len(self.names) + 2):
            some = frozenset(rule for rule in self.names if self.defends(some, rule))
            for rule in some:
                ranks.setdefault(rule, number)
        return ranks

    def number(self, some):
        return sum(1 << self.names.index(rule) for rule in some)

    def ground(self):
        ranks = self.ranks()
        return [0, self.number(ranks)] + [ranks.get(rule, 0) for rule in self.names]

    def all_admissible(self):
        return [some for some in self.subsets(self.names) if self.admissible(some)]

    def all_preferred(self):
        admissible = self.all_admissible()
        return [some for some in admissible if not any(some < other for other in admissible)]

    def all_wide(self):
        """The wide set alone, if there's just one as the document says."""
        inner = [some for some in self.all_admissible() if all(some <= other for other in self.all_preferred())]
        return [some for some in inner if all(other <= some for other in inner)]

    def all_of_kind(self, kind):
        """The numbers of the sets of that kind, rising."""
        every = self.subsets(self.names)
        found = (
            self.all_admissible,
            lambda: [some for some in every if self.complete(some)],
            self.all_preferred,
            lambda: [some for some in every if self.stable(some)],
        )[kind]()
        return sorted(self.number(some) for some in found)

    def kinds(self):
        """By each set's number the sum that kinds is to answer."""
        admissible = self.all_admissible()
        preferred = self.all_preferred()
        wide = self.all_wide()
        ground = frozenset(self.ranks())
        sums = {}
        for some in self.subsets(self.names):
            held = (self.free(some), some in admissible, self.complete(some), some in preferred,
                    self.stable(some), some == ground, some in wide)
            sums[self.number(some)] = sum(1 << place for place, holds in enumerate(held) if holds)
        return sums

    def literals(self):
        """All literals in the order of their numbers."""
        return [sign + atom for atom in sorted(self.atoms) for sign in ("", "~")]

    def stands(self):
        """By each literal's number the sum that stands is to answer."""
        preferred = [self.follows(some) for some in self.all_preferred()]
        ground = self.follows(self.ranks())
        wide = self.follows(self.all_wide()[0])
        sums = []
        for literal in self.literals():
            opposite = literal[1:] if literal.startswith("~") else "~" + literal
            held = (literal in ground, opposite in ground,
                    any(literal in each for each in preferred), all(literal in each for each in preferred),
                    any(opposite in each for each in preferred), all(opposite in each for each in preferred),
                    literal in wide)
            sums.append(sum(1 << place for place, holds in enumerate(held) if holds))
        return sums

    def strikers(self, rule):
        """The least sets that strike the rule with all of themselves."""
        against = [
            some for some in self.subsets(self.names)
            if rule not in some
            and not any(self.outweighs(rule, other) for other in some)
            and not self.clashes(some)
            and self.clashes(some | {rule})
        ]
        return [some for some in against if not any(other < some for other in against)]

    def first(self):
        """By each rule's number the list that first is to answer."""
        ground = frozenset(self.ranks())
        told = []
        for rule in self.names:
            left = [some for some in self.strikers(rule) if not any(self.strikes(ground, other) for other in some)]
            ordered = sorted((len(some), self.number(some)) for some in left)
            told.append([-3] if rule in ground else [0, ordered[0][1]])
        return told


class Dice:
    """Numbers that look thrown and are the same each time."""

    def __init__(self, seed):
        self.state = seed * 2654435761 % 2147483648

    def below(self, limit):
        self.state = (self.state * 1103515245 + 12345) % 2147483648
        return (self.state >> 12) % limit

    def one_of(self, choices):
        return choices[self.below(len(choices))]


def body_of(dice, literals, most):
    """A body made up of at most that many literals, with the blank behind it."""
    body = sorted({dice.one_of(literals) for k in range(dice.below(most + 1))})
    return ", ".join(body) + " " if body else ""


def loose_lines(dice, names):
    """Rules and laws over few atoms, so that much clashes."""
    atoms = ["p", "q", "s"][:1 + dice.below(3)] + names
    literals = atoms + ["~" + atom for atom in atoms]
    lines = []
    for name in names:
        lines.append(f"rule {name}: {body_of(dice, literals, 1)}=> {dice.one_of(literals)}")
    for number in range(dice.below(5)):
        lines.append(f"law l{number}: {body_of(dice, literals, 3)}-> {dice.one_of(literals)}")
    return lines


def feuding_lines(dice, names):
    """Rules that say nothing but themselves, and laws under which two or three of them don't go together."""
    lines = [f"rule {name}: => {name}" for name in names]
    for number in range(1 + dice.below(6)):
        part = sorted({dice.one_of(names) for k in range(2 + dice.below(2))})
        if len(part) > 1:
            lines.append(f"law l{number}: {', '.join(part[1:])} -> ~{part[0]}")
    return lines


def made_up_text(seed, most_rules):
    """A text made up from a seed, at times with a fault."""
    dice = Dice(seed)
    names = ["d", "b", "e", "a", "c"][:1 + dice.below(most_rules)]
    lines = dice.one_of([loose_lines, feuding_lines])(dice, names)
    for number in range(dice.below(5)):
        heavier = dice.below(len(names))
        lighter = dice.below(len(names))
        if heavier < lighter:
            lines.append(f"weigh {names[heavier]} > {names[lighter]}")
    return text(*lines)


def made_up_cases(count, most_rules):
    """Texts without a fault, made up one by one."""
    found = []
    seed = 0
    while len(found) < count:
        seed += 1
        t = made_up_text(seed, most_rules)
        if Slow(t).fault is None:
            found.append(t)
    return found


def told_and_made_up(count, most_rules):
    """The cases worked out by hand, and some made up."""
    return [text(*lines) for lines in TOLD] + made_up_cases(count, most_rules)
