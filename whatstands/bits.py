"""Sets kept as numbers: bit k (2 to the k) stands for member k."""


def has_member(some, k):
    return some >> k & 1 == 1


def with_member(some, k):
    return some | (1 << k)


def is_within(some, other):
    return some & other == some


def members_of(some):
    """The members of a set, rising."""
    return [k for k in range(some.bit_length()) if has_member(some, k)]


def places_held(held):
    """The set of the places at which a row has True."""
    return sum([1 << place for place, holds in enumerate(held) if holds])
