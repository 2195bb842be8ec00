"""Calls on one new object, handed in as one list of whole numbers and answered as another."""

from farwordsdesk.desk import Desk, NOT_BEGUN
from farwordsdesk.reading import split_calls

BEGIN = 0
GOAL = 1
BY_BALLS = 2
BY_CUT = 3
BY_MEAN = 4
BY_EVEN = 5
LEAST = 6
PROVES = 7
AT = 8


def answer_begun(desk, call, wholes, row):
    if call == GOAL:
        return desk.goal(wholes[0])
    if call == BY_BALLS:
        return desk.balls()
    if call == BY_CUT:
        return desk.cut()
    if call == BY_MEAN:
        return desk.mean()
    if call == BY_EVEN:
        return desk.even()
    if call == LEAST:
        return desk.least()
    if call == PROVES:
        return desk.proves(row)
    if call == AT:
        return desk.at(wholes[0], row)
    raise NotImplementedError(f"call {call} is not built yet")


def answer_call(desk, call, wholes, row):
    if call == BEGIN:
        return desk.begin(wholes[0], wholes[1])
    if not desk.is_begun():
        return [NOT_BEGUN]
    return answer_begun(desk, call, wholes, row)


def answers(calls):
    desk = Desk()
    answered = []
    for call, wholes, row in split_calls(calls):
        answer = answer_call(desk, call, wholes, row)
        answered.append(len(answer))
        answered.extend(answer)
    return answered
