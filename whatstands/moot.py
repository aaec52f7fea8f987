"""The calls. Each answers one list: a refusal's number alone, or 0 and the numbers asked for."""

from whatstands.bits import places_held
from whatstands.cases import read_case
from whatstands.standing import STABLE, admissible_sets, preferred_sets, rank_of, rounds, sets_of_kind, wide_set
from whatstands.standing import is_admissible, is_complete, is_free, is_stable
from whatstands.strikes import strike_table

MOST_BYTES = 8192


def answer(t, tell):
    """What tell says of the text's case, unless the text is refused."""
    if len(t) > MOST_BYTES:
        return [-1]
    case = read_case(t)
    if case is None:
        return [-6]
    return tell(case)


def tell_ground(case):
    reached = rounds(strike_table(case))
    ranks = [rank_of(reached, i) for i in range(len(case.rules))]
    return [0, reached[-1]] + ranks


def tell_kinds(case, some):
    if some >> len(case.rules) != 0:
        return [-1]
    strikes = strike_table(case)
    admissible = admissible_sets(strikes)
    preferred = preferred_sets(admissible)
    held = [
        is_free(strikes, some),
        is_admissible(strikes, some),
        is_complete(strikes, some),
        some in preferred,
        is_stable(strikes, some),
        some == rounds(strikes)[-1],
        some == wide_set(admissible, preferred),
    ]
    return [0, places_held(held)]


def tell_many(case, kind):
    if kind > STABLE:
        return [-1]
    return [0, len(sets_of_kind(strike_table(case), kind))]


def tell_sets(case, kind, start, most):
    if kind > STABLE:
        return [-1]
    return [0] + sets_of_kind(strike_table(case), kind)[start:start + most]


def ground(t):
    """The ground, a set of rules; then each rule's rank, 0 of one that isn't in it."""
    return answer(t, tell_ground)


def kinds(some, t):
    """A sum: 1 free, 2 admissible, 4 complete, 8 preferred, 16 stable, 32 the ground, 64 the wide set."""
    return answer(t, lambda case: tell_kinds(case, some))


def many(kind, t):
    """How many sets of that kind there are: 0 admissible, 1 complete, 2 preferred, 3 stable."""
    return answer(t, lambda case: tell_many(case, kind))


def sets(kind, start, most, t):
    """The sets of that kind, rising, from the start-th on (0 the first), at most so many."""
    return answer(t, lambda case: tell_sets(case, kind, start, most))
