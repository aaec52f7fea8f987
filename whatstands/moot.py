"""The calls. Each answers one list: a refusal's number alone, or 0 and the numbers asked for."""

from whatstands.bits import has_member, members_of, places_held
from whatstands.cases import read_case
from whatstands.follows import follow_table
from whatstands.literals import WIDELY_HELD, held_table, standing_of
from whatstands.standing import STABLE, admissible_sets, first_unstruck, ground_set, preferred_sets, rank_of, rounds
from whatstands.standing import is_admissible, is_complete, is_free, is_stable, sets_of_kind, wide_set
from whatstands.strikes import strike_table, strikers_of

MOST_BYTES = 8192


def answer(t, tell):
    """What tell says of the text's case, unless the text is refused."""
    if len(t) > MOST_BYTES:
        return [-1]
    case = read_case(t)
    if case is None:
        return [-6]
    return tell(case)


def strikes_of(case):
    return strike_table(case, follow_table(case))


def held_in(case):
    follows = follow_table(case)
    return held_table(follows, strike_table(case, follows))


def tell_ground(case):
    reached = rounds(strikes_of(case))
    ranks = [rank_of(reached, i) for i in range(len(case.rules))]
    return [0, reached[-1]] + ranks


def tell_kinds(case, some):
    if some >> len(case.rules) != 0:
        return [-1]
    strikes = strikes_of(case)
    admissible = admissible_sets(strikes)
    preferred = preferred_sets(admissible)
    held = [
        is_free(strikes, some),
        is_admissible(strikes, some),
        is_complete(strikes, some),
        some in preferred,
        is_stable(strikes, some),
        some == ground_set(strikes),
        some == wide_set(admissible, preferred),
    ]
    return [0, places_held(held)]


def tell_many(case, kind):
    if kind > STABLE:
        return [-1]
    return [0, len(sets_of_kind(strikes_of(case), kind))]


def tell_sets(case, kind, start, most):
    if kind > STABLE:
        return [-1]
    return [0] + sets_of_kind(strikes_of(case), kind)[start:start + most]


def tell_wide(case):
    admissible = admissible_sets(strikes_of(case))
    return [0, wide_set(admissible, preferred_sets(admissible))]


def tell_stands(case, literal):
    if literal >= case.literal_count:
        return [-1]
    return [0, standing_of(held_in(case), literal)]


def tell_all(case, how):
    if how > WIDELY_HELD:
        return [-1]
    return [0] + members_of(held_in(case)[how])


def tell_first(case, rule):
    if rule >= len(case.rules):
        return [-1]
    follows = follow_table(case)
    strikes = strike_table(case, follows)
    if has_member(ground_set(strikes), rule):
        return [-3]
    return [0, first_unstruck(strikes, strikers_of(case, follows, rule))]


def ground(t):
    """The ground, a set of rules; then each rule's rank, 0 of one that isn't in it."""
    return answer(t, tell_ground)


def kinds(some, t):
    """A sum: 1 free, 2 admissible, 4 complete, 8 preferred, 16 stable, 32 the ground, 64 the wide set."""
    return answer(t, lambda case: tell_kinds(case, some))


def many(kind, t):
    """How many sets of that kind there are: 0 admissible, 1 complete, 2 preferred, 3 stable."""
    return answer(t, lambda case: tell_many(case, kind))


def sets(kind, start, most, t):
    """The sets of that kind, rising, from the start-th on (0 the first), at most so many."""
    return answer(t, lambda case: tell_sets(case, kind, start, most))


def wide(t):
    """The wide set."""
    return answer(t, tell_wide)


def stands(literal, t):
    """How a literal stands, a sum.

    1 it stands, 2 falls, 4 may be held, 8 is held anyway, 16 its opposite may be held,
    32 its opposite is held anyway, 64 it follows from the wide set.
    """
    return answer(t, lambda case: tell_stands(case, literal))


def all_that(how, t):
    """The literals, rising, that stand (how 0), may be held (1), are held anyway (2), follow from the wide set (3)."""
    return answer(t, lambda case: tell_all(case, how))


def first(rule, t):
    """Of a rule that isn't in the ground, the first of its strikers of which the ground strikes no rule."""
    return answer(t, lambda case: tell_first(case, rule))
