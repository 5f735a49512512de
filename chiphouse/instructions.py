"""Instructions: how words are parted into kinds and parts, and which words are no instruction's."""

from chiphouse.refusals import NOT_THERE, OUT_OF_RANGE
from chiphouse.words import WORDS, with_sign

KIND_PLACE = 4096

# Of each part: what it is multiplied by within a word, and how many values it has there.
PLACES = {
    "f": (1, 8),
    "d": (512, 8),
    "a": (64, 8),
    "b": (8, 8),
    "i6": (1, 64),
    "i9": (1, 512),
    "i8": (1, 256),
    "k": (1, 8),
}
SIGNED = ("i6", "i9")

# Each kind's parts, in the order in which the calls word and read have them.
PARTS = {
    0: ("f", "d", "a", "b"),
    1: ("f", "d", "a", "b"),
    2: ("d", "a", "i6"),
    3: ("d", "i9"),
    4: ("d", "i8"),
    5: ("d", "a", "i6"),
    6: ("d", "a", "i6"),
    7: ("d", "i9"),
    8: ("d", "i9"),
    9: ("d", "i9"),
    10: ("d", "a", "i6"),
    11: ("k",),
    12: (),
    13: ("f", "d"),
    14: (),
}

# Each kind's names: where there are several, the part f chooses.
NAMES = {
    0: ("add", "sub", "and", "or", "xor", "shl", "shr", "sar"),
    1: ("lts", "ltu", "eq"),
    2: ("addi",),
    3: ("ldi",),
    4: ("ldh",),
    5: ("ld",),
    6: ("st",),
    7: ("bz",),
    8: ("bnz",),
    9: ("jal",),
    10: ("jr",),
    11: ("trap",),
    12: ("ret",),
    13: ("from", "cause", "back", "let", "may"),
    14: ("halt",),
}


def kind_of(word):
    return word // KIND_PLACE


def part_of(word, name):
    """The part of that name; i6 and i9 as words."""
    place = PLACES[name]
    part = word // place[0] % place[1]
    if name in SIGNED:
        return with_sign(part, place[1]) % WORDS
    return part


def part_names(kind):
    return PARTS[kind]


def choice_of(word):
    """Which of its kind's names a word has; there may be no such name."""
    if "f" in PARTS[kind_of(word)]:
        return part_of(word, "f")
    return 0


def name_of(word):
    return NAMES[kind_of(word)][choice_of(word)]


def find_name(wanted):
    """The kind that has this name, and which of its names it is; None if no kind has it."""
    for kind in NAMES:
        for choice, name in enumerate(NAMES[kind]):
            if name == wanted:
                return (kind, choice)
    return None


def compose(kind, parts):
    word = kind * KIND_PLACE
    for name, part in zip(PARTS[kind], parts):
        place = PLACES[name]
        word = word + part % place[1] * place[0]
    return word


def read_instruction(word):
    """The kind and the parts of a word's instruction in one list; None if it's no instruction's."""
    kind = kind_of(word)
    if kind not in PARTS:
        return None
    parts = [part_of(word, name) for name in PARTS[kind]]
    # Where a bit that belongs to no part isn't 0, the parts make another word than this one.
    if compose(kind, parts) != word or choice_of(word) >= len(NAMES[kind]):
        return None
    return [kind] + parts


def word_of(kind, parts):
    """The word of an instruction; None if no word is read as it."""
    if kind not in PARTS:
        return None
    word = compose(kind, parts)
    # compose takes any row of parts: a part too large, too many or too few don't come back as they are.
    if read_instruction(word) != [kind] + parts:
        return None
    return word


def tell_word(kind, parts):
    word = word_of(kind, parts)
    if word is None:
        return [OUT_OF_RANGE]
    return [word]


def tell_instruction(word):
    instruction = read_instruction(word)
    if instruction is None:
        return [NOT_THERE]
    return instruction
