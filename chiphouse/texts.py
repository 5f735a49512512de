"""Words written as texts, and texts read as words. A text is a Python text here, a row of bytes in the calls."""

from chiphouse.instructions import SIGNED, find_name, name_of, part_names, read_instruction, word_of
from chiphouse.refusals import NOT_THERE
from chiphouse.words import WORDS, with_sign

NO_NAME = "word"
WRITTEN_AS_REG = ("d", "a", "b")
MOST_DIGITS = 5

# The bytes that stand in some word's text, each with its sign.
SIGNS = {
    32: " ", 45: "-",
    48: "0", 49: "1", 50: "2", 51: "3", 52: "4", 53: "5", 54: "6", 55: "7", 56: "8", 57: "9",
    97: "a", 98: "b", 99: "c", 100: "d", 101: "e", 102: "f", 103: "g", 104: "h", 105: "i",
    106: "j", 107: "k", 108: "l", 109: "m", 110: "n", 111: "o", 112: "p", 113: "q", 114: "r",
    115: "s", 116: "t", 117: "u", 118: "v", 119: "w", 120: "x", 121: "y", 122: "z",
}


def write_part(name, part):
    if name in WRITTEN_AS_REG:
        return f"r{part}"
    if name in SIGNED:
        return str(with_sign(part, WORDS))
    return str(part)


def text_of(word):
    instruction = read_instruction(word)
    if instruction is None:
        return f"{NO_NAME} {word}"
    pieces = [name_of(word)]
    for name, part in zip(part_names(instruction[0]), instruction[1:]):
        # f is written as the name already.
        if name != "f":
            pieces.append(write_part(name, part))
    return " ".join(pieces)


def read_number(piece):
    """The number in a piece of a text, as a word; None if there's none.

    Loose on purpose (r, - and needless zeros are taken anywhere): word_in holds the whole text
    against the one text that the word has.
    """
    digits = piece
    if piece[:1] in ("r", "-"):
        digits = piece[1:]
    if len(digits) > MOST_DIGITS or not digits.isdigit():
        return None
    number = int(digits)
    if piece[:1] == "-":
        number = -number
    return number % WORDS


def guess_instruction(pieces):
    found = find_name(pieces[0])
    if found is None:
        return None
    kind = found[0]
    parts = [read_number(piece) for piece in pieces[1:]]
    if None in parts:
        return None
    if "f" in part_names(kind):
        parts = [found[1]] + parts
    return word_of(kind, parts)


def guess_word(pieces):
    """The word that these pieces tell, if they are those of a word's text; else any word or None."""
    if pieces[0] == NO_NAME:
        return read_number(pieces[-1])
    return guess_instruction(pieces)


def word_in(text):
    """The word whose text it is; None if it's none's."""
    word = guess_word(text.split(" "))
    if word is None or text_of(word) != text:
        return None
    return word


def bytes_of(text):
    return [ord(sign) for sign in text]


def word_in_bytes(row):
    """The word whose text is this row of bytes; None if it's none's."""
    for byte in row:
        if byte not in SIGNS:
            return None
    return word_in("".join([SIGNS[byte] for byte in row]))


def tell_text(word):
    row = bytes_of(text_of(word))
    return [len(row)] + row


def tell_code(row):
    word = word_in_bytes(row)
    if word is None:
        return [NOT_THERE]
    return [word]
