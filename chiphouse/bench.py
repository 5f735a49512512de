"""The calls, by their numbers, and the answers to a whole list of them."""

from chiphouse.instructions import tell_instruction, tell_word
from chiphouse.lines import list_lines, load_lines
from chiphouse.machine import get_reg, go_to, set_reg, tell_state
from chiphouse.reader import CallReader
from chiphouse.session import Session, back_to, save_at, start_anew
from chiphouse.steps import run_steps, trace_steps
from chiphouse.stops import add_stop, clear_stop
from chiphouse.texts import tell_code, tell_text
from chiphouse.world import feed_words, get_words, put_words, tell_words

# Each call takes all its parts from the reader before it is answered, so that
# the reader stands at the next call behind a refusal, too.


def call_new(session, reader):
    return start_anew(session)


def call_put(session, reader):
    p = reader.take_number()
    words = reader.take_row()
    return put_words(session.world, p, words)


def call_get(session, reader):
    p = reader.take_number()
    n = reader.take_number()
    return get_words(session.world, p, n)


def call_reg(session, reader):
    i = reader.take_number()
    return get_reg(session.machine, i)


def call_set(session, reader):
    i = reader.take_number()
    v = reader.take_number()
    return set_reg(session.machine, i, v)


def call_go(session, reader):
    p = reader.take_number()
    return go_to(session.machine, p)


def call_state(session, reader):
    return tell_state(session.machine)


def call_feed(session, reader):
    k = reader.take_number()
    words = reader.take_row()
    return feed_words(session.world, k, words)


def call_told(session, reader):
    return tell_words(session.world)


def call_stop(session, reader):
    p = reader.take_number()
    return add_stop(session.stops, p)


def call_clear(session, reader):
    p = reader.take_number()
    return clear_stop(session.stops, p)


def call_run(session, reader):
    n = reader.take_number()
    ups = reader.take_row()
    return run_steps(session.machine, session.world, session.stops, n, ups)


def call_trace(session, reader):
    n = reader.take_number()
    ups = reader.take_row()
    return trace_steps(session.machine, session.world, n, ups)


def call_word(session, reader):
    kind = reader.take_number()
    parts = reader.take_row()
    return tell_word(kind, parts)


def call_read(session, reader):
    word = reader.take_number()
    return tell_instruction(word)


def call_text(session, reader):
    word = reader.take_number()
    return tell_text(word)


def call_code(session, reader):
    row = reader.take_row()
    return tell_code(row)


def call_load(session, reader):
    p = reader.take_number()
    row = reader.take_row()
    return load_lines(session.world, p, row)


def call_list(session, reader):
    p = reader.take_number()
    n = reader.take_number()
    return list_lines(session.world, p, n)


def call_save(session, reader):
    k = reader.take_number()
    return save_at(session, k)


def call_back(session, reader):
    k = reader.take_number()
    return back_to(session, k)


CALLS = {
    0: call_new,
    1: call_put,
    2: call_get,
    3: call_reg,
    4: call_set,
    5: call_go,
    6: call_state,
    7: call_feed,
    8: call_told,
    9: call_stop,
    10: call_clear,
    11: call_run,
    12: call_trace,
    13: call_word,
    14: call_read,
    15: call_text,
    16: call_code,
    17: call_load,
    18: call_list,
    19: call_save,
    20: call_back,
}


def answers(calls):
    """Answer each call of the list: how many numbers its answer has, then these."""
    session = Session()
    reader = CallReader(calls)
    given = []
    while reader.has_more():
        call = CALLS[reader.take_number()]
        answer = call(session, reader)
        given.append(len(answer))
        given.extend(answer)
    return given
