"""What the instructions of kinds 0 and 1 make of two words."""

from chiphouse.words import WORDS, with_sign

POWERS = (1, 2, 4, 8, 16, 32, 64, 128, 256, 512, 1024, 2048, 4096, 8192, 16384, 32768)


def power_in(y):
    return POWERS[y % len(POWERS)]


def plus(x, y):
    return (x + y) % WORDS


def minus(x, y):
    return (x - y) % WORDS


def bits_in_both(x, y):
    return x & y


def bits_in_either(x, y):
    return x | y


def bits_in_one(x, y):
    return x ^ y


def shift_left(x, y):
    return x * power_in(y) % WORDS


def shift_right(x, y):
    return x // power_in(y)


def shift_right_with_sign(x, y):
    return with_sign(x, WORDS) // power_in(y) % WORDS


def less_with_sign(x, y):
    return 1 if with_sign(x, WORDS) < with_sign(y, WORDS) else 0


def less(x, y):
    return 1 if x < y else 0


def same(x, y):
    return 1 if x == y else 0


# By kind, then by f.
RESULTS = {
    0: (
        plus, minus, bits_in_both, bits_in_either, bits_in_one,
        shift_left, shift_right, shift_right_with_sign,
    ),
    1: (less_with_sign, less, same),
}


def reckon(kind, f, x, y):
    result = RESULTS[kind][f]
    return result(x, y)
