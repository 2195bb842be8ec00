"""Point 3, the rest: best_proof and spread, which of like ones they are, and that both come to the same."""

import random
import unittest
from fractions import Fraction
from math import comb, gcd, lcm

from farwordsdesk.solving import least_point
from model import (
    GOALS, LARGEST, SIGNS, ask, ask_last, best_proof, comes_to, corners, fractions_of, is_apart, spread,
)

# Worked out by hand: the best proof's numbers behind the 1, and the greatest spread's.
BY_HAND = {
    (1, 1): ([1], [1]),
    (2, 1): ([1, 1], [2, 1]),
    (2, 2): ([Fraction(1, 2), 0], [1]),
    (3, 2): ([Fraction(2, 3), Fraction(1, 3), 0], [3, 0]),
    (3, 3): ([0, 0, 1], [1]),
    (4, 3): ([Fraction(1, 3), 0, 0, Fraction(1, 3)], [Fraction(4, 3), Fraction(1, 3)]),
    (4, 4): ([0, 0, Fraction(1, 4), 0], [1]),
    (5, 4): ([Fraction(4, 15), 0, 0, Fraction(1, 15), 0], [Fraction(5, 3), 0]),
}

# Other proofs of the very same bound, their numbers behind the 1.
AS_GOOD = {
    (3, 2): ["1 0 0"],
    (3, 3): ["1/3 0 0"],
    (4, 2): ["1 1/2 0 0"],
    (4, 4): ["1/4 0 0 0"],
    (5, 2): ["1 1/2 1/2 0 0", "1 7/10 3/10 0 0"],
    (5, 4): ["1/3 0 0 0 0"],
    (5, 5): ["0 0 1/10 0 0", "1/5 0 0 0 0"],
    (6, 2): ["1 2/3 1/2 1/3 0 0", "1 4/5 1/2 1/5 0 0"],
    (6, 3): ["1/2 1/6 0 0 1/6 1/2", "2/3 1/6 0 0 0 1/2", "1 0 0 0 0 1"],
    (6, 4): ["1/2 0 0 0 0 0"],
    (6, 6): ["0 0 1/20 0 0 0", "1/6 0 0 0 0 0"],
}


def told_proof(bits, d):
    """The bound rounded down, the bound, and the numbers behind the first, as the program tells them."""
    answer = ask_last(("begin", bits, d), "best_proof")
    bound, *numbers = fractions_of(answer[1:])
    return answer[0], bound, numbers


def told_spread(bits, d):
    """How many numbers, these, and all together with 1, as the program tells them."""
    answer = ask_last(("begin", bits, d), "spread")
    *numbers, together = fractions_of(answer[1:])
    return answer[0], numbers, together


def is_spread(bits, d, numbers):
    return min(numbers) >= 0 and all(
        SIGNS[bits, k, 0] + sum(number * SIGNS[bits, k, d + place] for place, number in enumerate(numbers)) >= 0
        for k in range(1, bits + 1))


class BestProof(unittest.TestCase):
    def test_by_hand(self):
        for (bits, d), (numbers, spread_numbers) in BY_HAND.items():
            with self.subTest(bits=bits, d=d):
                bound = comes_to(bits, [1] + numbers, 0)
                self.assertEqual(told_proof(bits, d), (int(bound), bound, numbers))

    def test_the_very_numbers(self):
        self.assertEqual(ask_last(("begin", 1, 1), "best_proof"), [2, 2, 1, 1, 1])
        self.assertEqual(ask_last(("begin", 2, 2), "best_proof"), [2, 2, 1, 1, 2, 0, 1])
        self.assertEqual(ask_last(("begin", 4, 3), "best_proof"), [2, 8, 3, 1, 3, 0, 1, 0, 1, 1, 3])
        self.assertEqual(ask_last(("begin", 5, 4), "best_proof"), [2, 8, 3, 4, 15, 0, 1, 0, 1, 1, 15, 0, 1])

    def test_as_many_numbers_as_told(self):
        for bits, d in GOALS:
            with self.subTest(bits=bits, d=d):
                self.assertEqual(len(ask_last(("begin", bits, d), "best_proof")), 3 + 2 * bits)

    def test_it_is_a_proof_of_just_that_bound(self):
        for bits, d in GOALS:
            with self.subTest(bits=bits, d=d):
                rounded, bound, numbers = told_proof(bits, d)
                self.assertGreaterEqual(min(numbers), 0)
                for i in range(d, bits + 1):
                    self.assertLessEqual(comes_to(bits, [1] + numbers, i), 0)
                self.assertEqual(comes_to(bits, [1] + numbers, 0), bound)
                self.assertEqual(rounded, bound.numerator // bound.denominator)

    def test_in_whole_numbers_proves_says_the_same(self):
        for bits, d in GOALS:
            answer = ask_last(("begin", bits, d), "best_proof")
            numbers = [Fraction(1)] + fractions_of(answer[3:])
            times = lcm(*(number.denominator for number in numbers))
            for more in (times, 2 * times):
                row = [int(number * more) for number in numbers]
                with self.subTest(bits=bits, d=d, row=row):
                    self.assertEqual(ask_last(("begin", bits, d), ("proves", row)), answer[:3])

    def test_the_least_of_all_corners(self):
        for bits, d in GOALS:
            with self.subTest(bits=bits, d=d):
                self.assertEqual(ask_last(("begin", bits, d), "best_proof"), best_proof(bits, d))

    def test_of_like_ones_the_lesser_where_they_first_differ(self):
        for (bits, d), others in AS_GOOD.items():
            rounded, bound, numbers = told_proof(bits, d)
            for other in others:
                other = [Fraction(number) for number in other.split()]
                with self.subTest(bits=bits, d=d, other=other):
                    self.assertTrue(all(comes_to(bits, [1] + other, i) <= 0 for i in range(d, bits + 1)))
                    self.assertEqual(comes_to(bits, [1] + other, 0), bound)
                    self.assertLess(numbers, other)

    def test_no_row_by_chance_is_better(self):
        chance = random.Random(9)
        for bits, d in GOALS:
            bound = told_proof(bits, d)[1]
            for turn in range(150):
                row = [chance.randint(1, 6)] + [chance.choice((0, 0, 1, 2, 5, 9)) for place in range(bits)]
                answer = ask_last(("begin", bits, d), ("proves", row))
                if answer != [-33]:
                    self.assertGreaterEqual(Fraction(answer[1], answer[2]), bound, (bits, d, row))

    def test_d_of_1_and_of_2(self):
        for bits in range(1, 7):
            with self.subTest(bits=bits):
                self.assertEqual(told_proof(bits, 1), (2 ** bits, 2 ** bits, [1] * bits))
                if bits > 1:
                    numbers = [Fraction(bits - k, bits) for k in range(1, bits + 1)]
                    self.assertEqual(told_proof(bits, 2), (2 ** (bits - 1), 2 ** (bits - 1), numbers))

    def test_d_as_many_as_the_bits(self):
        for bits in range(1, 7):
            with self.subTest(bits=bits):
                # The last odd k does it alone: the sign sum of it and all bits is as far below 0 as it can be.
                last = bits if bits % 2 else bits - 1
                numbers = [Fraction(1, comb(bits, last)) if k == last else 0 for k in range(1, bits + 1)]
                self.assertEqual(told_proof(bits, bits), (2, 2, numbers))

    def test_a_bound_that_is_not_a_whole_number(self):
        fractional = {goal: told_proof(*goal)[:2] for goal in GOALS if told_proof(*goal)[1].denominator > 1}
        self.assertEqual(fractional, {
            (4, 3): (2, Fraction(8, 3)), (5, 4): (2, Fraction(8, 3)), (6, 5): (2, Fraction(12, 5)),
        })


class Spread(unittest.TestCase):
    def test_by_hand(self):
        for (bits, d), (proof, numbers) in BY_HAND.items():
            with self.subTest(bits=bits, d=d):
                self.assertEqual(told_spread(bits, d), (bits - d + 1, numbers, sum(numbers) + 1))

    def test_the_very_numbers(self):
        self.assertEqual(ask_last(("begin", 1, 1), "spread"), [1, 1, 1, 2, 1])
        self.assertEqual(ask_last(("begin", 3, 2), "spread"), [2, 3, 1, 0, 1, 4, 1])
        self.assertEqual(ask_last(("begin", 4, 3), "spread"), [2, 4, 3, 1, 3, 8, 3])
        self.assertEqual(ask_last(("begin", 5, 4), "spread"), [2, 5, 3, 0, 1, 8, 3])

    def test_as_many_numbers_as_told(self):
        for bits, d in GOALS:
            with self.subTest(bits=bits, d=d):
                answer = ask_last(("begin", bits, d), "spread")
                self.assertEqual(answer[0], bits - d + 1)
                self.assertEqual(len(answer), 1 + 2 * (answer[0] + 1))

    def test_it_is_a_spread(self):
        for bits, d in GOALS:
            with self.subTest(bits=bits, d=d):
                many, numbers, together = told_spread(bits, d)
                self.assertTrue(is_spread(bits, d, numbers))
                self.assertEqual(together, sum(numbers) + 1)

    def test_both_come_to_the_same(self):
        for bits, d in GOALS:
            with self.subTest(bits=bits, d=d):
                proof, numbers = ask(("begin", bits, d), "best_proof", "spread")[1:]
                self.assertEqual(proof[1:3], numbers[-2:])

    def test_the_greatest_of_all_corners(self):
        for bits, d in GOALS:
            with self.subTest(bits=bits, d=d):
                self.assertEqual(ask_last(("begin", bits, d), "spread"), spread(bits, d))

    def test_d_of_1_and_of_2(self):
        for bits in range(1, 7):
            with self.subTest(bits=bits):
                every = [comb(bits, i) for i in range(1, bits + 1)]
                self.assertEqual(told_spread(bits, 1), (bits, every, 2 ** bits))
                if bits > 1:
                    even = [comb(bits, i) if i % 2 == 0 else 0 for i in range(2, bits + 1)]
                    self.assertEqual(told_spread(bits, 2), (bits - 1, even, 2 ** (bits - 1)))

    def test_d_as_many_as_the_bits(self):
        for bits in range(1, 7):
            with self.subTest(bits=bits):
                self.assertEqual(ask_last(("begin", bits, bits), "spread"), [1, 1, 1, 2, 1])

    def test_how_words_apart_stand_is_a_spread(self):
        chance = random.Random(15)
        for bits, d in GOALS:
            together = told_spread(bits, d)[2]
            for turn in range(20):
                start = chance.randrange(2 ** bits)
                words = sorted(ask_last(("begin", bits, d), ("fill", [start]))[1:])
                words = sorted(chance.sample(words, chance.randint(1, len(words))))
                self.assertTrue(is_apart(words, d))
                stand = fractions_of(ask_last(("begin", bits, d), ("held", words))[1:])
                with self.subTest(bits=bits, d=d, words=words):
                    self.assertEqual(stand[0], 1)
                    self.assertEqual(stand[1:d], [0] * (d - 1))
                    self.assertTrue(is_spread(bits, d, stand[d:]))
                    self.assertEqual(sum(stand), len(words))
                    self.assertLessEqual(len(words), together)


class Both(unittest.TestCase):
    LOOKS = ("best_proof", "spread")

    def test_nothing_in_common_above_and_below(self):
        for bits, d in GOALS:
            for answer in ask(("begin", bits, d), *self.LOOKS)[1:]:
                for above, below in zip(answer[1::2], answer[2::2], strict=True):
                    with self.subTest(bits=bits, d=d, above=above, below=below):
                        self.assertGreaterEqual(above, 0)
                        self.assertGreaterEqual(below, 1)
                        self.assertEqual(gcd(above, below), 1)

    def test_not_begun(self):
        for look in self.LOOKS:
            self.assertEqual(ask(look, ("begin", 7, 1), look), [[-61], [-22], [-61]])

    def test_goal_and_begin_in_between(self):
        for look, model in (("best_proof", best_proof), ("spread", spread)):
            with self.subTest(look=look):
                answered = ask(("begin", 6, 3), look, ("goal", 5), look, ("goal", 7), look, ("begin", 4, 3), look,
                               ("begin", 4, 5), look, ("goal", 0), look, ("goal", LARGEST), look)
                self.assertEqual(answered, [[0], model(6, 3), [3], model(6, 5), [-22], model(6, 5), [0], model(4, 3),
                                            [-22], model(4, 3), [-22], model(4, 3), [-22], model(4, 3)])

    def test_looking_changes_nothing(self):
        for bits, d in GOALS:
            with self.subTest(bits=bits, d=d):
                once = ask(("begin", bits, d), *self.LOOKS)[1:]
                again = ask(("begin", bits, d), *(self.LOOKS * 3), "told", "by_cut")[1:]
                self.assertEqual(again, once * 3 + [[bits, d], [2 ** (bits - d + 1)]])

    def test_farther_apart_no_more(self):
        for bits in range(1, 7):
            bounds = [told_proof(bits, d)[1] for d in range(1, bits + 1)]
            self.assertEqual(bounds, sorted(bounds, reverse=True))


class LeastPoint(unittest.TestCase):
    def least(self, rows):
        below, *aboves = least_point(rows)
        return [Fraction(above, below) for above in aboves]

    def test_by_hand(self):
        self.assertEqual(least_point([[0, 1]]), [1, 0])
        self.assertEqual(self.least([[-3, 2]]), [Fraction(3, 2)])
        # What the first needn't have the second must.
        self.assertEqual(self.least([[-3, 1, 1]]), [0, 3])
        self.assertEqual(self.least([[-3, 1, 1], [2, 0, -1]]), [1, 2])
        # A third for the first, and as much of the second as of the third, which both together come to three.
        self.assertEqual(self.least([[-1, 3, 0, 0], [0, 0, 1, -1], [-5, -3, 2, 2]]),
                         [Fraction(1, 3), Fraction(3, 2), Fraction(3, 2)])

    def test_what_is_below_stays_a_determinant(self):
        # Of all three rows' factors it's 3 times 4; not divided at each step it would be far more.
        self.assertEqual(least_point([[-1, 3, 0, 0], [0, 0, 1, -1], [-5, -3, 2, 2]]), [12, 4, 18, 18])

    def test_rows_by_chance_against_all_corners(self):
        chance = random.Random(4)
        steps = 0
        for turn in range(600):
            size = chance.randint(1, 4)
            rows = [[0] + [chance.randint(-4, 4) for place in range(size)] for row in range(chance.randint(1, 4))]
            # Some point is sure to keep to all of them.
            kept = [chance.randint(0, 3) for place in range(size)]
            for row in rows:
                row[0] = chance.randint(0, 2) - sum(number * other for number, other in zip(row[1:], kept))
            expected = min(corners(rows))
            steps += any(expected)
            self.assertEqual(self.least(rows), expected, rows)
        self.assertGreater(steps, 200)


if __name__ == "__main__":
    unittest.main()
