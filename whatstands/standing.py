"""What stands among all rules of a case, asked of its strikes.

strikes: by each set of rules, the set of those that it strikes.
"""

from whatstands.bits import has_member, is_within, members_of

ADMISSIBLE = 0
COMPLETE = 1
PREFERRED = 2
STABLE = 3


def all_rules(strikes):
    return len(strikes) - 1


def defended_by(strikes, some):
    """The rules that a set defends."""
    # A larger set strikes more, so if any set without a rule that some strikes
    # goes against a rule, the largest such set does.
    unanswered = all_rules(strikes) ^ strikes[some]
    return all_rules(strikes) ^ strikes[unanswered]


def is_free(strikes, some):
    return strikes[some] & some == 0


def is_admissible(strikes, some):
    return is_free(strikes, some) and is_within(some, defended_by(strikes, some))


def is_complete(strikes, some):
    return is_free(strikes, some) and some == defended_by(strikes, some)


def is_stable(strikes, some):
    return is_free(strikes, some) and some | strikes[some] == all_rules(strikes)


def admissible_sets(strikes):
    """All admissible sets, rising."""
    return [some for some in range(len(strikes)) if is_admissible(strikes, some)]


def preferred_sets(admissible):
    """Of all admissible sets, rising, those within no other; rising."""
    preferred = []
    # A set that has another is the greater number, so it comes first from behind.
    for some in reversed(admissible):
        if not any([is_within(some, other) for other in preferred]):
            preferred.append(some)
    return list(reversed(preferred))


def sets_of_kind(strikes, kind):
    """All sets of a kind, rising."""
    admissible = admissible_sets(strikes)
    if kind == ADMISSIBLE:
        return admissible
    if kind == COMPLETE:
        return [some for some in admissible if is_complete(strikes, some)]
    if kind == PREFERRED:
        return preferred_sets(admissible)
    return [some for some in range(len(strikes)) if is_stable(strikes, some)]


def wide_set(admissible, preferred):
    """Of all admissible sets within every preferred one the one that has the others."""
    common = preferred[0]
    for some in preferred:
        common &= some
    # It has all of them, and only what they have, so it's what they have together.
    wide = 0
    for some in admissible:
        if is_within(some, common):
            wide |= some
    return wide


def rounds(strikes):
    """The sets of the rounds, from round 0 to the first that no further one changes."""
    reached = [0]
    following = defended_by(strikes, 0)
    while following != reached[-1]:
        reached.append(following)
        following = defended_by(strikes, following)
    return reached


def ground_set(strikes):
    """The least set that has all that it defends."""
    return rounds(strikes)[-1]


def rank_of(reached, i):
    """The first round that has the rule, 0 if none has."""
    for number, some in enumerate(reached):
        if has_member(some, i):
            return number
    return 0


def first_unstruck(strikes, strikers):
    """Of the strikers of which the ground strikes no rule the one with the fewest rules, of these the least."""
    struck = strikes[ground_set(strikes)]
    # There is one, if they are those of a rule outside the ground: else the ground would defend the rule.
    unstruck = [some for some in strikers if some & struck == 0]
    return min(unstruck, key=lambda some: (len(members_of(some)), some))
