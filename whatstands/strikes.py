"""Which rules each set of rules strikes."""

from whatstands.bits import has_member, with_member
from whatstands.follows import clash_table


def struck_at_once(case, clashing, some):
    """The rules that the whole set strikes: it doesn't clash by itself, but with each of them."""
    if clashing[some]:
        return 0
    struck = 0
    for i, lighter in enumerate(case.outweighed):
        if not has_member(some, i) and some & lighter == 0 and clashing[with_member(some, i)]:
            struck = with_member(struck, i)
    return struck


def strike_table(case, follows):
    """By each set of rules, the set of those that it strikes, with all of itself or with a part."""
    clashing = clash_table(case, follows)
    table = []
    for some in range(len(clashing)):
        struck = struck_at_once(case, clashing, some)
        # Every smaller part lies within the set less one of its rules, which the table has by now.
        for i in range(len(case.rules)):
            if has_member(some, i):
                struck |= table[some ^ (1 << i)]
        table.append(struck)
    return table
