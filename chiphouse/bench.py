"""The calls, by their numbers, and the answers to a whole list of them."""

from chiphouse.machine import get_reg, go_to, set_reg, tell_state
from chiphouse.reader import CallReader
from chiphouse.session import Session, start_anew
from chiphouse.stops import add_stop, clear_stop
from chiphouse.world import feed_words, get_words, put_words, tell_words

# Each call takes all its parts from the reader before it is answered, so that
# the reader stands at the next call behind a refusal, too.


def call_new(session, reader):
    return start_anew(session)


def call_put(session, reader):
    p = reader.take_number()
    words = reader.take_row()
    return put_words(session.world, p, words)


def call_get(session, reader):
    p = reader.take_number()
    n = reader.take_number()
    return get_words(session.world, p, n)


def call_reg(session, reader):
    i = reader.take_number()
    return get_reg(session.machine, i)


def call_set(session, reader):
    i = reader.take_number()
    v = reader.take_number()
    return set_reg(session.machine, i, v)


def call_go(session, reader):
    p = reader.take_number()
    return go_to(session.machine, p)


def call_state(session, reader):
    return tell_state(session.machine)


def call_feed(session, reader):
    k = reader.take_number()
    words = reader.take_row()
    return feed_words(session.world, k, words)


def call_told(session, reader):
    return tell_words(session.world)


def call_stop(session, reader):
    p = reader.take_number()
    return add_stop(session.stops, p)


def call_clear(session, reader):
    p = reader.take_number()
    return clear_stop(session.stops, p)


CALLS = {
    0: call_new,
    1: call_put,
    2: call_get,
    3: call_reg,
    4: call_set,
    5: call_go,
    6: call_state,
    7: call_feed,
    8: call_told,
    9: call_stop,
    10: call_clear,
}


def answers(calls):
    """Answer each call of the list: how many numbers its answer has, then these."""
    session = Session()
    reader = CallReader(calls)
    given = []
    while reader.has_more():
        call = CALLS[reader.take_number()]
        answer = call(session, reader)
        given.append(len(answer))
        given.extend(answer)
    return given
