"""The calls on one picture and one piece, answered one behind another."""

from throughwindows.handlers import answer_begin, answer_cut, answer_even, answer_find, answer_mean, answer_part
from throughwindows.handlers import answer_parting, answer_piece, answer_rank, answer_row, answer_shift
from throughwindows.handlers import answer_spread, answer_weigh
from throughwindows.pictures import Desk
from throughwindows.reading import read_call


def answer_one(desk, call):
    """What one call answers; it changes the desk."""
    number = call.number
    given = call.numbers
    rows = call.rows
    if number == 1:
        return answer_begin(desk, given[0], given[1], rows[0])
    if number == 2:
        return answer_piece(desk, given[0], given[1], rows[0])
    if number == 3:
        return answer_mean(desk, given[0], given[1])
    if number == 4:
        return answer_rank(desk, given[0], given[1], given[2], given[3])
    if number == 5:
        return answer_weigh(desk, given[0], given[1], given[2], given[3], rows[0], rows[1])
    if number == 6:
        return answer_even(desk)
    if number == 7:
        return answer_parting(desk)
    if number == 8:
        return answer_part(desk, given[0])
    if number == 9:
        return answer_find(desk)
    if number == 10:
        return answer_shift(desk, given[0])
    if number == 11:
        return answer_row(desk, given[0])
    if number == 12:
        return answer_spread(desk)
    return answer_cut(desk, given[0], given[1], given[2], given[3])


def answers(calls):
    """For each call how many numbers it answers, then these."""
    desk = Desk()
    told = []
    place = 0
    while place < len(calls):
        call = read_call(calls, place)
        answer = answer_one(desk, call)
        told.append(len(answer))
        told.extend(answer)
        place = call.behind
    return told
