"""The world: memory, and outside, where words wait and are told."""

from chiphouse.refusals import OUT_OF_RANGE, TOO_MANY

MEMORY_SIZE = 65520
OUTSIDE_SIZE = 16
MOST_GOT = 64
MOST_WAITING = 64


class World:
    """A world as at first. untold has a pair (number outside, word) for each word still to be told."""

    def __init__(self):
        self.memory = [0] * MEMORY_SIZE
        self.waiting = [[] for k in range(OUTSIDE_SIZE)]
        self.untold = []


def copy_world(world):
    copied = World()
    copied.memory = list(world.memory)
    copied.waiting = [list(words) for words in world.waiting]
    copied.untold = list(world.untold)
    return copied


def fetch_at(world, p):
    if p < MEMORY_SIZE:
        return world.memory[p]
    return 0


def read_at(world, p):
    if p < MEMORY_SIZE:
        return world.memory[p]
    words = world.waiting[p - MEMORY_SIZE]
    if len(words) == 0:
        return 0
    return words.pop(0)


def put_at(world, p, word):
    if p < MEMORY_SIZE:
        world.memory[p] = word
    else:
        world.untold.append((p - MEMORY_SIZE, word))


def lies_in_memory(p, n):
    # No word at all stands nowhere, so it stands in no wrong place either, whatever p is.
    return n == 0 or p + n <= MEMORY_SIZE


def put_words(world, p, words):
    if not lies_in_memory(p, len(words)):
        return [OUT_OF_RANGE]
    for k, word in enumerate(words):
        world.memory[p + k] = word
    return [len(words)]


def get_words(world, p, n):
    if n > MOST_GOT or not lies_in_memory(p, n):
        return [OUT_OF_RANGE]
    return [n] + world.memory[p:p + n]


def feed_words(world, k, words):
    if k >= OUTSIDE_SIZE:
        return [OUT_OF_RANGE]
    if len(world.waiting[k]) + len(words) > MOST_WAITING:
        return [TOO_MANY]
    world.waiting[k].extend(words)
    return [len(world.waiting[k])]


def tell_words(world):
    answer = [len(world.untold)]
    for pair in world.untold:
        answer.append(pair[0])
        answer.append(pair[1])
    world.untold = []
    return answer
