"""The interface: a row of numbers that holds calls, and what they're answered."""

from strokehall.events import merge
from strokehall.frames import frame
from strokehall.hall import Hall
from strokehall.packets import send
from strokehall.rows import counted, rows_at

BEGIN = 0
POLICY = 1
FEED = 2
HELD = 3
WRITE = 4
READ = 5
MERGE = 6
SEND = 7
FRAME = 8
LINE = 9

# Of each call how many single numbers it has, and how many rows behind them.
SHAPES = ((3, 2), (3, 0), (1, 1), (0, 0), (0, 1), (0, 1), (0, 2), (1, 0), (3, 0), (1, 0), (0, 1))


def answer_begun(hall, call, single, rows):
    """What a call is answered that needs a keyboard."""
    if call == POLICY:
        return hall.policy(single[0], single[1], single[2])
    if call == FEED:
        return hall.feed(single[0], rows[0])
    if call == HELD:
        return hall.held()
    if call == WRITE:
        return hall.write(rows[0])
    if call == READ:
        return hall.read(rows[0])
    if call == LINE:
        return hall.line(single[0])
    return hall.take(rows[0])


def answer(hall, call, single, rows):
    """What one call is answered."""
    if call == BEGIN:
        return hall.begin(single[0], single[1], single[2], rows[0], rows[1])
    if call == MERGE:
        return merge(rows[0], rows[1])
    if call == SEND:
        return send(single[0])
    if call == FRAME:
        return frame(single[0], single[1], single[2])
    if hall.board is None:
        return [-9]
    return answer_begun(hall, call, single, rows)


def answers(calls):
    """For each call how many numbers it's answered, and these."""
    hall = Hall()
    given = []
    place = 0
    while place < len(calls):
        call = calls[place]
        singles, count = SHAPES[call]
        start = place + 1
        rows, place = rows_at(calls, start + singles, count)
        given.extend(counted(answer(hall, call, calls[start:start + singles], rows)))
    return given
