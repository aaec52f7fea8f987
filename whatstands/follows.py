"""What follows from sets of rules, and which of them clash.

Literals are kept as the bits of one number: bit k stands for literal k, so an
atom's two literals are neighbours. A step is a pair: its body's bits, its head's bit.
"""

from whatstands.bits import has_member, is_within


def close_under(steps, held):
    """The least set of literals that has those held and the head of each step whose body it has."""
    waiting = steps
    grown = True
    while grown:
        before = held
        later = []
        for step in waiting:
            if is_within(step[0], held):
                held |= step[1]
            else:
                later.append(step)
        waiting = later
        grown = held != before
    return held


def has_opposites(held, unopposed):
    """Whether an atom and its opposite are held; unopposed has the bits of all atoms themselves."""
    return held & (held >> 1) & unopposed != 0


def follow_table(case):
    """By each set of rules, what follows from it."""
    table = [close_under(case.laws, 0)]
    for some in range(1, 1 << len(case.rules)):
        last = some.bit_length() - 1
        # What follows from fewer rules follows from more, so it need not be found again.
        held = table[some ^ (1 << last)] | case.name_bits[last]
        chosen = [step for i, step in enumerate(case.rules) if has_member(some, i)]
        table.append(close_under(case.laws + chosen, held))
    return table


def clash_table(case, follows):
    """By each set of rules, whether it clashes; follows tells what follows from each."""
    return [has_opposites(held, case.unopposed) for held in follows]
