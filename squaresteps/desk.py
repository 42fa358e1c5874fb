"""Takes a list of calls and gives back the list of their answers."""

from squaresteps.reader import Reader
from squaresteps.session import Session

SQ_START = 1
SQ_SET = 2
SQ_LOAD = 3
SQ_GIVE = 4
SQ_CELLS = 5
SQ_COUNT = 6
SQ_TELL = 7
SQ_MAY = 8
SQ_SPARE = 9
SQ_STEPS = 10


class UnknownCall(ValueError):
    pass


def answers(calls):
    reader = Reader(calls)
    session = Session()
    told = []
    while reader.has_more():
        answer = answer_next(session, reader)
        told.append(len(answer))
        told.extend(answer)
    return told


def answer_next(session, reader):
    call = reader.take_number()
    if call <= SQ_CELLS:
        return answer_about_givens(session, reader, call)
    return answer_about_fillings(session, reader, call)


def answer_about_givens(session, reader, call):
    if call == SQ_START:
        return session.sq_start()
    if call == SQ_SET:
        n = reader.take_number()
        diagonals = reader.take_number()
        return session.sq_set(n, diagonals, reader.take_list())
    if call == SQ_LOAD:
        return session.sq_load(reader.take_list())
    if call == SQ_GIVE:
        row = reader.take_number()
        column = reader.take_number()
        return session.sq_give(row, column, reader.take_number())
    if call == SQ_CELLS:
        return session.sq_cells(reader.take_number())
    raise UnknownCall(f"there is no call numbered {call}")


def answer_about_fillings(session, reader, call):
    if call == SQ_COUNT:
        return session.sq_count(reader.take_number())
    if call == SQ_TELL:
        k = reader.take_number()
        return session.sq_tell(k, reader.take_number())
    if call == SQ_MAY:
        return session.sq_may(reader.take_number())
    if call == SQ_SPARE:
        return session.sq_spare(reader.take_number())
    if call == SQ_STEPS:
        return session.sq_steps(reader.take_number())
    raise UnknownCall(f"there is no call numbered {call}")
