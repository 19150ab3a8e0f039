"""Where calls come in: answers(calls) goes through a list of calls on one new history."""

from cellmoments.asking import tell_differing, tell_edits, tell_result, tell_results
from cellmoments.blaming import tell_bisected, tell_blamed, tell_flips, tell_touching
from cellmoments.cell import Cell
from cellmoments.counting import count_runs, count_workings
from cellmoments.editing import change_seed, drop_cell, put_cell
from cellmoments.history import History
from cellmoments.leaving import tell_guilty, tell_shrunk
from cellmoments.reader import Reader
from cellmoments.remembering import go_back, lose_moment, remember_moment, tell_moments


def call_put(history, reader):
    number = reader.take()
    name = reader.take()
    kind = reader.take()
    constant = reader.take()
    reads = reader.take_list()
    return [put_cell(history, Cell(number, name, kind, constant, reads))]


def call_drop(history, reader):
    return [drop_cell(history, reader.take())]


def call_seed(history, reader):
    return [change_seed(history, reader.take())]


def call_moment(history, reader):
    return [remember_moment(history, reader.take())]


def call_lose(history, reader):
    return [lose_moment(history, reader.take())]


def call_moments(history, reader):
    return tell_moments(history)


def call_back(history, reader):
    return [go_back(history, reader.take())]


def call_now(history, reader):
    return [history.last_position()]


def call_result(history, reader):
    number = reader.take()
    p = reader.take()
    return tell_result(history, number, p)


def call_results(history, reader):
    return tell_results(history, reader.take())


def call_differ(history, reader):
    p = reader.take()
    q = reader.take()
    return tell_differing(history, p, q)


def call_edits(history, reader):
    p = reader.take()
    q = reader.take()
    return tell_edits(history, p, q)


def call_blame(history, reader):
    number = reader.take()
    p = reader.take()
    return tell_blamed(history, number, p)


def call_flips(history, reader):
    number = reader.take()
    p = reader.take()
    q = reader.take()
    return tell_flips(history, number, p, q)


def call_bisect(history, reader):
    number = reader.take()
    p = reader.take()
    q = reader.take()
    return tell_bisected(history, number, p, q)


def call_touching(history, reader):
    number = reader.take()
    p = reader.take()
    q = reader.take()
    return tell_touching(history, number, p, q)


def call_guilty(history, reader):
    number = reader.take()
    p = reader.take()
    q = reader.take()
    return tell_guilty(history, number, p, q)


def call_shrink(history, reader):
    number = reader.take()
    p = reader.take()
    q = reader.take()
    return tell_shrunk(history, number, p, q)


def call_workings(history, reader):
    p = reader.take()
    q = reader.take()
    return [count_workings(history, p, q)]


def call_runs(history, reader):
    p = reader.take()
    q = reader.take()
    return [count_runs(history, p, q)]


# A call's number is its place here.
CALLS = (
    call_put,
    call_drop,
    call_seed,
    call_moment,
    call_lose,
    call_moments,
    call_back,
    call_now,
    call_result,
    call_results,
    call_differ,
    call_edits,
    call_blame,
    call_flips,
    call_bisect,
    call_touching,
    call_guilty,
    call_shrink,
    call_workings,
    call_runs,
)


def answers(calls):
    """For each call, in order, how many numbers are answered, then these."""
    reader = Reader(calls)
    history = History()
    told = []
    while reader.has_more():
        call = CALLS[reader.take()]
        answer = call(history, reader)
        told.append(len(answer))
        told.extend(answer)
    return told
