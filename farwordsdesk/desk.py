"""The object that calls are made on. Each call gives the list of numbers that it answers."""

from farwordsdesk.best import best_proof_point, greatest_spread_point
from farwordsdesk.counting import comes_to, lowest_terms, told_fractions
from farwordsdesk.plain import by_balls, by_cut, by_even, by_mean, least_bound
from farwordsdesk.proofs import is_proof, is_right_row
from farwordsdesk.words import are_apart, are_right_words, count_twos, far_words, filled_words

NOT_BEGUN = -61
NOT_RIGHT = -22
NOT_SO = -33
NO_WORDS = -6

MOST_BITS = 6


def bound_or_refusal(bound):
    if bound is None:
        return [NOT_SO]
    return [bound]


def counted(words):
    return [len(words)] + words


class Desk:
    # No begin that is answered 0 has 0 bits, so that 0 can stand for not begun.
    def __init__(self):
        self.bits = 0
        self.distance = 0

    def is_begun(self):
        return self.bits > 0

    def begin(self, bits, distance):
        if bits < 1 or bits > MOST_BITS or distance < 1 or distance > bits:
            return [NOT_RIGHT]
        self.bits = bits
        self.distance = distance
        return [0]

    def goal(self, distance):
        if distance < 1 or distance > self.bits:
            return [NOT_RIGHT]
        before = self.distance
        self.distance = distance
        return [before]

    def balls(self):
        return [by_balls(self.bits, self.distance)]

    def cut(self):
        return [by_cut(self.bits, self.distance)]

    def mean(self):
        return bound_or_refusal(by_mean(self.bits, self.distance))

    def even(self):
        return bound_or_refusal(by_even(self.bits, self.distance))

    def least(self):
        return [least_bound(self.bits, self.distance)]

    def proves(self, numbers):
        if not is_right_row(self.bits, numbers):
            return [NOT_RIGHT]
        if not is_proof(self.bits, self.distance, numbers):
            return [NOT_SO]
        above = comes_to(self.bits, numbers, 0)
        below = numbers[0]
        return [above // below] + lowest_terms(above, below)

    def at(self, i, numbers):
        if i > self.bits or not is_right_row(self.bits, numbers):
            return [NOT_RIGHT]
        return [0, comes_to(self.bits, numbers, i)]

    def best_proof(self):
        point = best_proof_point(self.bits, self.distance)
        below = point[0]
        above = point[1]
        return [above // below] + told_fractions(point[1:], below)

    # The point has behind what's below what the spread lacks, which isn't told.
    def spread(self):
        point = greatest_spread_point(self.bits, self.distance)
        below = point[0]
        aboves = point[2:]
        together = sum(aboves) + below
        return [len(aboves)] + told_fractions(aboves + [together], below)

    def taken(self):
        return counted(filled_words(self.bits, [], self.distance))

    def apart(self, words):
        if not are_right_words(self.bits, words):
            return [NOT_RIGHT]
        return [1 if are_apart(words, self.distance) else 0]

    def more(self, words):
        if not are_right_words(self.bits, words):
            return [NOT_RIGHT]
        return counted(far_words(self.bits, words, self.distance))

    def fill(self, words):
        if not are_right_words(self.bits, words):
            return [NOT_RIGHT]
        if not are_apart(words, self.distance):
            return [NOT_SO]
        return counted(filled_words(self.bits, words, self.distance))

    def held(self, words):
        if not are_right_words(self.bits, words):
            return [NOT_RIGHT]
        if len(words) == 0:
            return [NO_WORDS]
        twos = count_twos(self.bits, words)
        return [len(twos)] + told_fractions(twos, len(words))

    def told(self):
        return [self.bits, self.distance]
