"""Words, and numbers with a sign."""

WORDS = 65536


def with_sign(number, size):
    """What a number below size, which is 2^k for a number of k bits, counts as with a sign."""
    if number >= size // 2:
        return number - size
    return number
