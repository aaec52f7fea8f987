"""How literals stand: those that follow from the ground, from preferred sets, from the wide set.

follows: by each set of rules, what follows from it. Literals are kept as bits, as there.
"""

from whatstands.bits import has_member, places_held
from whatstands.standing import admissible_sets, ground_set, preferred_sets, wide_set

STANDING = 0
HOLDABLE = 1
HELD_ANYWAY = 2
WIDELY_HELD = 3


def held_by_some(follows, chosen):
    """What follows from at least one of the chosen sets."""
    held = 0
    for some in chosen:
        held |= follows[some]
    return held


def held_by_all(follows, chosen):
    """What follows from each of the chosen sets, of which there's one at least."""
    held = follows[chosen[0]]
    for some in chosen:
        held &= follows[some]
    return held


def held_table(follows, strikes):
    """The literals that stand, that may be held, that are held anyway, that follow from the wide set."""
    admissible = admissible_sets(strikes)
    preferred = preferred_sets(admissible)
    return [
        follows[ground_set(strikes)],
        held_by_some(follows, preferred),
        held_by_all(follows, preferred),
        follows[wide_set(admissible, preferred)],
    ]


def standing_of(held, literal):
    """How a literal stands, as a sum; held is a table as above."""
    opposite = literal ^ 1
    return places_held([
        has_member(held[STANDING], literal),
        has_member(held[STANDING], opposite),
        has_member(held[HOLDABLE], literal),
        has_member(held[HELD_ANYWAY], literal),
        has_member(held[HOLDABLE], opposite),
        has_member(held[HELD_ANYWAY], opposite),
        has_member(held[WIDELY_HELD], literal),
    ])
