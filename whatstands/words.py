"""The lines of a text: their words, and what a word or a line is made of.

A word is a tuple of bytes, so that words are in order by bytes, a beginning first.
"""

LINE_FEED = 10
BLANK = 32
COMMA = 44
HYPHEN = 45
COLON = 58
TILDE = 126

MOST_NAME = 15
MOST_BODY = 6


def word_of(text):
    """The bytes of a written text, as a word."""
    return tuple([ord(sign) for sign in text])


def split_at(row, mark):
    """The pieces of a row of bytes that stand before, between and behind its marks."""
    pieces = []
    piece = []
    for byte in row:
        if byte == mark:
            pieces.append(tuple(piece))
            piece = []
        else:
            piece.append(byte)
    pieces.append(tuple(piece))
    return pieces


def lines_of(t):
    """The lines of a text, each as its words; None if the text ends within a line."""
    pieces = split_at(t, LINE_FEED)
    if len(pieces[-1]) > 0:
        return None
    return [split_at(piece, BLANK) for piece in pieces[:-1]]


def is_letter(byte):
    return ord("a") <= byte <= ord("z")


def is_digit(byte):
    return ord("0") <= byte <= ord("9")


def is_name(word):
    if len(word) == 0 or len(word) > MOST_NAME or not is_letter(word[0]):
        return False
    return all([is_letter(byte) or is_digit(byte) or byte == HYPHEN for byte in word])


def read_literal(word):
    """The literal's atom, and 1 for the opposite, else 0; None if the word is no literal."""
    opposite = 1 if word[:1] == (TILDE,) else 0
    atom = word[opposite:]
    if not is_name(atom):
        return None
    return (atom, opposite)


def bare_word(word, mark):
    """The word without the mark right behind it; empty, which fits nowhere, if the mark is missing."""
    if word[-1:] != (mark,):
        return ()
    return word[:-1]


def read_claim(words, arrow):
    """A law's or rule's name, body and head from the words of its line; None if it's not such a line."""
    if len(words) < 4 or len(words) > 4 + MOST_BODY or words[-2] != arrow:
        return None
    name = bare_word(words[1], COLON)
    listed = words[2:-2]
    body = [read_literal(bare_word(word, COMMA)) for word in listed[:-1]]
    body.extend([read_literal(word) for word in listed[-1:]])
    head = read_literal(words[-1])
    if not is_name(name) or None in body or head is None:
        return None
    return (name, tuple(body), head)


def read_weight(words):
    """The two names of a weight's line, the heavier first; None if it's not such a line."""
    if len(words) != 4 or words[2] != word_of(">"):
        return None
    if not is_name(words[1]) or not is_name(words[3]):
        return None
    return (words[1], words[3])
