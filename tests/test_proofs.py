"""Point 3, as far as proves and at: rows of numbers, the sign sum, what numbers come to, proofs and fractions."""

import random
import unittest
from itertools import product
from math import gcd

from model import GOALS, LARGEST, SIGNS, ask, ask_last, at, comes_to, plain_bounds, proves

# The sign sums of four bits, by hand: a row for each k, a column for each distance.
FOUR_BITS = (
    (1, 1, 1, 1, 1),
    (4, 2, 0, -2, -4),
    (6, 0, -2, 0, 6),
    (4, -2, 0, 2, -4),
    (1, -1, 1, -1, 1),
)


def wrong_rows(bits):
    right = bits + 1
    yield []
    for length in range(1, 8):
        if length != right:
            yield [1] * length
    for place in range(right):
        for number in (1001, 1002, LARGEST):
            yield [1] * place + [number] + [1] * (right - place - 1)
    yield [LARGEST] * 7


class At(unittest.TestCase):
    def test_sign_sums_of_four_bits_by_hand(self):
        for k in range(5):
            row = [1 if place == k else 0 for place in range(5)]
            for i in range(5):
                with self.subTest(k=k, i=i):
                    self.assertEqual(ask_last(("begin", 4, 2), ("at", i, row)), [0, FOUR_BITS[k][i]])

    def test_every_sign_sum_as_counted_out(self):
        for (bits, k, i), sign_sum in SIGNS.items():
            row = [1 if place == k else 0 for place in range(bits + 1)]
            with self.subTest(bits=bits, k=k, i=i):
                self.assertEqual(ask_last(("begin", bits, 1), ("at", i, row)), [0, sign_sum])

    def test_numbers_together(self):
        self.assertEqual(ask_last(("begin", 4, 2), ("at", 0, [3, 1, 4, 1, 5])), [0, 40])
        self.assertEqual(ask_last(("begin", 4, 2), ("at", 2, [3, 1, 4, 1, 5])), [0, 0])
        self.assertEqual(ask_last(("begin", 4, 2), ("at", 3, [3, 7, 4, 1, 5])), [0, -14])
        self.assertEqual(ask_last(("begin", 1, 1), ("at", 1, [2, 5])), [0, -3])

    def test_rows_by_chance_as_counted_out(self):
        chance = random.Random(20261118)
        for bits in range(1, 7):
            for turn in range(60):
                row = [chance.randint(0, chance.choice((1, 5, 1000))) for place in range(bits + 1)]
                for i in range(bits + 1):
                    with self.subTest(bits=bits, i=i, row=row):
                        self.assertEqual(ask_last(("begin", bits, 1), ("at", i, row)), at(bits, i, row))

    def test_d_does_not_matter(self):
        for bits, d in GOALS:
            row = list(range(1, bits + 2))
            for i in range(bits + 1):
                with self.subTest(bits=bits, d=d, i=i):
                    self.assertEqual(ask_last(("begin", bits, d), ("at", i, row)), [0, comes_to(bits, row, i)])

    def test_the_largest_and_the_least_there_are(self):
        self.assertEqual(ask_last(("begin", 6, 1), ("at", 0, [1000] * 7)), [0, 64000])
        odd = [0, 1000, 0, 1000, 0, 1000, 0]
        self.assertEqual(ask_last(("begin", 6, 1), ("at", 6, odd)), [0, -32000])
        self.assertEqual(ask_last(("begin", 6, 1), ("at", 6, [0] * 7)), [0, 0])

    def test_wrong_rows_are_refused(self):
        for bits in range(1, 7):
            for row in wrong_rows(bits):
                with self.subTest(bits=bits, row=row):
                    self.assertEqual(ask_last(("begin", bits, 1), ("at", 0, row)), [-22])
                    self.assertEqual(ask_last(("begin", bits, 1), ("at", bits, row)), [-22])

    def test_i_above_the_bits_is_refused(self):
        for bits in range(1, 7):
            for i in (bits + 1, 7, 1000, LARGEST):
                with self.subTest(bits=bits, i=i):
                    self.assertEqual(ask_last(("begin", bits, 1), ("at", i, [1] * (bits + 1))), [-22])

    def test_i_above_the_bits_and_a_wrong_row_is_one_refusal(self):
        for bits in range(1, 7):
            for row in wrong_rows(bits):
                for i in (bits + 1, LARGEST):
                    with self.subTest(bits=bits, i=i, row=row):
                        answered = ask(("begin", bits, 1), ("at", i, row), "by_cut")
                        self.assertEqual(answered, [[0], [-22], [2 ** bits]])


class Proves(unittest.TestCase):
    def test_numbers_that_come_to_just_0(self):
        for bits, d in GOALS:
            with self.subTest(bits=bits, d=d):
                self.assertEqual(ask_last(("begin", bits, d), ("proves", [1] * (bits + 1))), [2 ** bits, 2 ** bits, 1])

    def test_just_above_0_is_no_proof(self):
        for bits, d in GOALS:
            with self.subTest(bits=bits, d=d):
                self.assertEqual(ask_last(("begin", bits, d), ("proves", [2] + [1] * bits)), [-33])

    def test_the_mean_is_a_proof(self):
        for bits, d in GOALS:
            by_mean = plain_bounds(bits, d)[2]
            if by_mean == -33:
                continue
            common = gcd(2 * d, 2 * d - bits)
            row = [2 * d - bits, 1] + [0] * (bits - 1)
            with self.subTest(bits=bits, d=d):
                answered = ask_last(("begin", bits, d), ("proves", row))
                self.assertEqual(answered, [by_mean, 2 * d // common, (2 * d - bits) // common])

    def test_a_bound_that_is_not_a_whole_number(self):
        self.assertEqual(ask_last(("begin", 5, 4), ("proves", [3, 1, 0, 0, 0, 0])), [2, 8, 3])
        self.assertEqual(ask_last(("begin", 1, 1), ("proves", [2, 3])), [2, 5, 2])
        self.assertEqual(ask_last(("begin", 2, 2), ("proves", [4, 5, 6])), [5, 5, 1])
        self.assertEqual(ask_last(("begin", 2, 2), ("proves", [4, 5, 5])), [4, 19, 4])

    def test_a_proof_times_some_number_proves_the_same(self):
        for times in (1, 2, 3, 7, 333):
            row = [3 * times, times, 0, 0, 0, 0]
            with self.subTest(times=times):
                self.assertEqual(ask_last(("begin", 5, 4), ("proves", row)), [2, 8, 3])
                self.assertEqual(ask_last(("begin", 6, 1), ("proves", [times] * 7)), [64, 64, 1])

    def test_the_first_number_is_1_or_more(self):
        for bits, d in GOALS:
            with self.subTest(bits=bits, d=d):
                self.assertEqual(ask_last(("begin", bits, d), ("proves", [0] * (bits + 1))), [-33])
        # At each distance from d on these come to 0 or less, but for the first number they'd prove.
        self.assertEqual(ask_last(("begin", 4, 3), ("proves", [0, 1, 0, 0, 0])), [-33])
        self.assertEqual(ask_last(("begin", 4, 3), ("proves", [1, 1, 0, 0, 0])), [5, 5, 1])

    def test_each_distance_from_d_on_counts_and_none_before(self):
        # These come to 3, -1, -1, 3 at the distances 0 to 3: the last one is above 0.
        self.assertEqual(ask_last(("begin", 3, 2), ("proves", [1, 0, 1, 0])), [-33])
        self.assertEqual(ask_last(("begin", 3, 3), ("proves", [1, 0, 1, 0])), [-33])
        # At distance 2 of four bits these come to 2, at 3 and 4 to 0 or less.
        row = [2, 1, 0, 0, 0]
        self.assertEqual([ask_last(("begin", 4, 1), ("at", i, row))[1] for i in range(5)], [6, 4, 2, 0, -2])
        self.assertEqual([ask_last(("begin", 4, d), ("proves", row)) for d in range(1, 5)],
                         [[-33], [-33], [3, 3, 1], [3, 3, 1]])
        # Only in the midst of the distances these are above 0.
        midst = [6, 0, 0, 0, 0, 5, 1]
        come_to = [comes_to(6, midst, i) for i in range(7)]
        self.assertEqual([ask_last(("begin", 6, d), ("proves", midst)) for d in range(1, 7)],
                         [proves(6, d, midst) for d in range(1, 7)])
        self.assertTrue(any(number > 0 for number in come_to[1:6]))

    def test_every_small_row_of_few_bits_as_counted_out(self):
        for bits in range(1, 5):
            for row in product(range(4), repeat=bits + 1):
                row = list(row)
                calls = [("begin", bits, 1)]
                for d in range(1, bits + 1):
                    calls.extend([("goal", d), ("proves", row)])
                expected = [proves(bits, d, row) for d in range(1, bits + 1)]
                self.assertEqual(ask(*calls)[2::2], expected, (bits, row))

    def test_rows_by_chance_as_counted_out(self):
        chance = random.Random(61)
        proofs = 0
        for bits, d in GOALS:
            for turn in range(300):
                most = chance.choice((2, 10, 1000))
                row = [chance.randint(0, most // 2)] + [chance.randint(0, most) for place in range(bits)]
                expected = proves(bits, d, row)
                proofs += len(expected) == 3
                self.assertEqual(ask_last(("begin", bits, d), ("proves", row)), expected, (bits, d, row))
        self.assertGreater(proofs, 300)

    def test_wrong_rows_are_refused(self):
        for bits, d in GOALS:
            for row in wrong_rows(bits):
                with self.subTest(bits=bits, d=d, row=row):
                    self.assertEqual(ask_last(("begin", bits, d), ("proves", row)), [-22])

    def test_1000_is_right_and_1001_is_not(self):
        for bits, d in GOALS:
            full = [1000] * (bits + 1)
            with self.subTest(bits=bits, d=d):
                self.assertEqual(ask_last(("begin", bits, d), ("proves", full)), [2 ** bits, 2 ** bits, 1])
                for place in range(bits + 1):
                    over = full[:place] + [1001] + full[place + 1:]
                    self.assertEqual(ask_last(("begin", bits, d), ("proves", over)), [-22])
                    self.assertEqual(ask_last(("begin", bits, d), ("at", 0, over)), [-22])

    def test_a_wrong_row_is_told_ahead_of_no_proof(self):
        self.assertEqual(ask_last(("begin", 2, 1), ("proves", [0, 0, 1001])), [-22])
        self.assertEqual(ask_last(("begin", 2, 1), ("proves", [0, 0])), [-22])
        self.assertEqual(ask_last(("begin", 2, 1), ("proves", [0, 0, 1000])), [-33])

    def test_no_more_words_than_a_proof_proves(self):
        chance = random.Random(22)
        for bits, d in GOALS:
            most = ask_last(("begin", bits, d), "least")[0]
            for turn in range(100):
                row = [1] + [chance.randint(0, 4) for place in range(bits)]
                answer = ask_last(("begin", bits, d), ("proves", row))
                if len(answer) == 3:
                    self.assertLessEqual(most, answer[0], (bits, d, row))

    def test_looking_and_being_refused_changes_nothing(self):
        for bits, d in GOALS:
            looks = [("proves", [1] * (bits + 1)), ("proves", [0] * (bits + 1)), ("proves", []),
                     ("at", 0, [1] * (bits + 1)), ("at", bits + 1, [1] * (bits + 1)), ("at", LARGEST, [LARGEST])]
            with self.subTest(bits=bits, d=d):
                once = ask(("begin", bits, d), *looks)[1:]
                self.assertEqual(once, [[2 ** bits, 2 ** bits, 1], [-33], [-22], [0, 2 ** bits], [-22], [-22]])
                twice = ask(("begin", bits, d), *looks, *looks, "by_cut", ("goal", 1))[1:]
                self.assertEqual(twice, once + once + [[2 ** (bits - d + 1)], [d]])


if __name__ == "__main__":
    unittest.main()
