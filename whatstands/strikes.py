"""Which rules each set of rules strikes, and the strikers of a rule."""

from whatstands.bits import has_member, is_within, places_held, with_member
from whatstands.follows import clash_table


def goes_against(case, clashing, some, i):
    """Whether a set strikes a rule with all of itself: it doesn't clash, but does with the rule."""
    if has_member(some, i) or some & case.outweighed[i] != 0:
        return False
    return not clashing[some] and clashing[with_member(some, i)]


def struck_at_once(case, clashing, some):
    """The rules that a set strikes with all of itself."""
    return places_held([goes_against(case, clashing, some, i) for i in range(len(case.rules))])


def strikers_of(case, follows, i):
    """The least sets that strike a rule with all of themselves, rising."""
    clashing = clash_table(case, follows)
    strikers = []
    for some in range(len(clashing)):
        # What lies within a set is the lesser number, so it has been found by now.
        if goes_against(case, clashing, some, i) and not any([is_within(other, some) for other in strikers]):
            strikers.append(some)
    return strikers


def strike_table(case, follows):
    """By each set of rules, the set of those that it strikes, with all of itself or with a part."""
    clashing = clash_table(case, follows)
    table = []
    for some in range(len(clashing)):
        struck = struck_at_once(case, clashing, some)
        # Every smaller part lies within the set less one of its rules, which the table has by now.
        for i in range(len(case.rules)):
            if has_member(some, i):
                struck |= table[some ^ (1 << i)]
        table.append(struck)
    return table
