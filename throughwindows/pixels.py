"""The calls on one picture and one piece, answered one behind another."""

from throughwindows.handlers import answer_begin, answer_even, answer_mean, answer_parting
from throughwindows.handlers import answer_piece, answer_rank, answer_weigh
from throughwindows.pictures import Desk
from throughwindows.reading import read_call


def answer_one(desk, call):
    """What one call answers; it changes the desk."""
    number = call.number
    given = call.numbers
    rows = call.rows
    if number == 1:
        return answer_begin(desk, given[0], given[1], rows[0])
    if number == 2:
        return answer_piece(desk, given[0], given[1], rows[0])
    if number == 3:
        return answer_mean(desk, given[0], given[1])
    if number == 4:
        return answer_rank(desk, given[0], given[1], given[2], given[3])
    if number == 5:
        return answer_weigh(desk, given[0], given[1], given[2], given[3], rows[0], rows[1])
    if number == 6:
        return answer_even(desk)
    return answer_parting(desk)


def answers(calls):
    """For each call how many numbers it answers, then these."""
    desk = Desk()
    told = []
    place = 0
    while place < len(calls):
        call = read_call(calls, place)
        answer = answer_one(desk, call)
        told.append(len(answer))
        told.extend(answer)
        place = call.behind
    return told
