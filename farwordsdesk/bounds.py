"""Calls on one new object, handed in as one list of whole numbers and answered as another."""

from farwordsdesk.desk import Desk, NOT_BEGUN
from farwordsdesk.reading import split_calls

BEGIN = 0
GOAL = 1
BY_BALLS = 2
BY_CUT = 3
BY_MEAN = 4
BY_EVEN = 5
LEAST = 6
PROVES = 7
AT = 8
BEST_PROOF = 9
SPREAD = 10
TAKEN = 11
APART = 12
MORE = 13
FILL = 14
HELD = 15


def answer_alone(desk, call):
    if call == BY_BALLS:
        return desk.balls()
    if call == BY_CUT:
        return desk.cut()
    if call == BY_MEAN:
        return desk.mean()
    if call == BY_EVEN:
        return desk.even()
    if call == LEAST:
        return desk.least()
    if call == BEST_PROOF:
        return desk.best_proof()
    if call == SPREAD:
        return desk.spread()
    if call == TAKEN:
        return desk.taken()
    return desk.told()


def answer_begun(desk, call, wholes, row):
    if call == GOAL:
        return desk.goal(wholes[0])
    if call == PROVES:
        return desk.proves(row)
    if call == AT:
        return desk.at(wholes[0], row)
    if call == APART:
        return desk.apart(row)
    if call == MORE:
        return desk.more(row)
    if call == FILL:
        return desk.fill(row)
    if call == HELD:
        return desk.held(row)
    return answer_alone(desk, call)


def answer_call(desk, call, wholes, row):
    if call == BEGIN:
        return desk.begin(wholes[0], wholes[1])
    if not desk.is_begun():
        return [NOT_BEGUN]
    return answer_begun(desk, call, wholes, row)


def answers(calls):
    desk = Desk()
    answered = []
    for call, wholes, row in split_calls(calls):
        answer = answer_call(desk, call, wholes, row)
        answered.append(len(answer))
        answered.extend(answer)
    return answered
