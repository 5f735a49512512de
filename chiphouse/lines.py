"""Lines: the texts of words in memory, each with a byte 10 behind it."""

from chiphouse.refusals import WRONG_LINE
from chiphouse.texts import bytes_of, text_of, word_in_bytes
from chiphouse.world import get_words, put_words

LINE_END = 10


def split_lines(row):
    """The lines of a row of bytes; the last one is what stands behind the last byte 10."""
    lines = []
    line = []
    for byte in row:
        if byte == LINE_END:
            lines.append(line)
            line = []
        else:
            line.append(byte)
    lines.append(line)
    return lines


def load_lines(world, p, row):
    lines = split_lines(row)
    words = []
    for line in lines[:-1]:
        word = word_in_bytes(line)
        if word is None:
            return [WRONG_LINE, len(words)]
        words.append(word)
    if len(lines[-1]) > 0:
        return [WRONG_LINE, len(words)]
    return put_words(world, p, words)


def list_lines(world, p, n):
    got = get_words(world, p, n)
    if got[0] < 0:
        return got
    row = []
    for word in got[1:]:
        row.extend(bytes_of(text_of(word)))
        row.append(LINE_END)
    return [len(row)] + row
