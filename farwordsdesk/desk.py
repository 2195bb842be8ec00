"""The object that calls are made on. Each call gives the list of numbers that it answers."""

from farwordsdesk.counting import comes_to, lowest_terms
from farwordsdesk.plain import by_balls, by_cut, by_even, by_mean, least_bound
from farwordsdesk.proofs import is_proof, is_right_row

NOT_BEGUN = -61
NOT_RIGHT = -22
NOT_SO = -33

MOST_BITS = 6


def bound_or_refusal(bound):
    if bound is None:
        return [NOT_SO]
    return [bound]


class Desk:
    # No begin that is answered 0 has 0 bits, so that 0 can stand for not begun.
    def __init__(self):
        self.bits = 0
        self.distance = 0

    def is_begun(self):
        return self.bits > 0

    def begin(self, bits, distance):
        if bits < 1 or bits > MOST_BITS or distance < 1 or distance > bits:
            return [NOT_RIGHT]
        self.bits = bits
        self.distance = distance
        return [0]

    def goal(self, distance):
        if distance < 1 or distance > self.bits:
            return [NOT_RIGHT]
        before = self.distance
        self.distance = distance
        return [before]

    def balls(self):
        return [by_balls(self.bits, self.distance)]

    def cut(self):
        return [by_cut(self.bits, self.distance)]

    def mean(self):
        return bound_or_refusal(by_mean(self.bits, self.distance))

    def even(self):
        return bound_or_refusal(by_even(self.bits, self.distance))

    def least(self):
        return [least_bound(self.bits, self.distance)]

    def proves(self, numbers):
        if not is_right_row(self.bits, numbers):
            return [NOT_RIGHT]
        if not is_proof(self.bits, self.distance, numbers):
            return [NOT_SO]
        above = comes_to(self.bits, numbers, 0)
        below = numbers[0]
        return [above // below] + lowest_terms(above, below)

    def at(self, i, numbers):
        if i > self.bits or not is_right_row(self.bits, numbers):
            return [NOT_RIGHT]
        return [0, comes_to(self.bits, numbers, i)]
