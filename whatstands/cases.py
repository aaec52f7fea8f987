"""A case, read from its text and numbered."""

from whatstands.bits import has_member, with_member
from whatstands.follows import close_under, has_opposites
from whatstands.words import lines_of, read_claim, read_weight, word_of

MOST_LAWS = 64
MOST_RULES = 10
MOST_ATOMS = 64


class Draft:
    """What the lines read so far have told, by names."""

    def __init__(self):
        self.laws = {}
        self.rules = {}
        self.atoms = {}
        self.weights = []


class Case:
    """A case by numbers: rules and literals in their order, sets of either as bits."""

    def __init__(self, draft):
        rule_names = sorted(draft.rules)
        bit_of = literal_bits(sorted(draft.atoms))
        self.laws = [step_of(draft.laws[name], bit_of) for name in draft.laws]
        self.rules = [step_of(draft.rules[name], bit_of) for name in rule_names]
        self.name_bits = [bit_of[(name, 0)] for name in rule_names]
        self.literal_count = 2 * len(draft.atoms)
        self.unopposed = sum([bit_of[(atom, 0)] for atom in draft.atoms])
        self.outweighed = outweighed_rules(rule_names, draft.weights)


def literal_bits(atoms):
    """The bit of each literal, of atoms in their order."""
    bit_of = {}
    for number, atom in enumerate(atoms):
        bit_of[(atom, 0)] = 1 << (2 * number)
        bit_of[(atom, 1)] = 1 << (2 * number + 1)
    return bit_of


def step_of(said, bit_of):
    """A body and a head, as a step."""
    return (sum([bit_of[literal] for literal in said[0]]), bit_of[said[1]])


def outweighed_rules(rule_names, weights):
    """By each rule, the set of those that it outweighs, by going on too."""
    many = len(rule_names)
    outweighed = [0] * many
    for pair in weights:
        i = rule_names.index(pair[0])
        outweighed[i] = with_member(outweighed[i], rule_names.index(pair[1]))
    for middle in range(many):
        for i in range(many):
            if has_member(outweighed[i], middle):
                outweighed[i] |= outweighed[middle]
    return outweighed


def add_claim(draft, peers, claim):
    """Add a law or a rule to its peers; False if something's wrong with it."""
    if claim is None or claim[0] in draft.laws or claim[0] in draft.rules:
        return False
    body = claim[1]
    said = (body, claim[2])
    if len(set(body)) != len(body) or said in list(peers.values()):
        return False
    peers[claim[0]] = said
    for literal in body + (claim[2],):
        draft.atoms[literal[0]] = True
    # A rule's name is an atom, a law's isn't.
    if claim[0] in draft.rules:
        draft.atoms[claim[0]] = True
    return len(draft.laws) <= MOST_LAWS and len(draft.rules) <= MOST_RULES and len(draft.atoms) <= MOST_ATOMS


def add_weight(draft, pair):
    """Add a weight; False if something's wrong with it."""
    if pair is None or pair[0] not in draft.rules or pair[1] not in draft.rules:
        return False
    draft.weights.append(pair)
    return True


def add_line(draft, words):
    """Add what a line tells; False if it has a fault of the kinds 1 to 5."""
    if words[0] == word_of("law"):
        return add_claim(draft, draft.laws, read_claim(words, word_of("->")))
    if words[0] == word_of("rule"):
        return add_claim(draft, draft.rules, read_claim(words, word_of("=>")))
    if words[0] == word_of("weigh"):
        return add_weight(draft, read_weight(words))
    return False


def outweighs_itself(case):
    return any([has_member(lighter, i) for i, lighter in enumerate(case.outweighed)])


def laws_clash(case):
    return has_opposites(close_under(case.laws, 0), case.unopposed)


def read_case(t):
    """The case that a text tells; None if it's no case's text."""
    lines = lines_of(t)
    if lines is None:
        return None
    draft = Draft()
    for words in lines:
        if not add_line(draft, words):
            return None
    case = Case(draft)
    # Further lines never undo a fault of the kinds 6 and 7, so some line has one just if the whole text has.
    if outweighs_itself(case) or laws_clash(case):
        return None
    return case
