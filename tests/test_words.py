"""Point 4: taken, apart, more, fill, held, and rows of words."""

import random
import unittest
from itertools import combinations, product
from math import gcd

from model import GOALS, LARGEST, apart, ask, ask_last, fill, filled, held, is_apart, looked, more

OF_WORDS = ("apart", "more", "fill", "held")


def wrong_words(bits):
    """Rows of words that aren't right for so many bits: not rising, or with a bit that there isn't."""
    over = 2 ** bits
    for word in (over, over + 1, 2 * over, 64, 65, 1000, 2 ** 30, LARGEST):
        yield [word]
        yield [0, word]
        yield list(range(over))[:63] + [word]
    yield [LARGEST] * 64
    yield [0, 0]
    yield [over - 1, over - 1]
    yield [1, 0]
    yield [over - 1, 0]
    yield [0, 1, 1]
    yield [0, 1, 0]
    yield [over, 0]
    yield list(range(over))[::-1]
    yield [0] * 64
    if bits > 1:
        yield [0, 2, 1, 3]
        yield [1, 0, 2, 3]
        yield [0, 1, 3, 2]
        yield [0, 2, 2, 3]


def every_row(bits):
    """Every right row of so many bits, no words and all of them too."""
    words = range(2 ** bits)
    for many in range(len(words) + 1):
        for chosen in combinations(words, many):
            yield list(chosen)


def rows_by_chance(chance, bits, d, turns):
    """Right rows of words: each third as it comes, the others apart."""
    for turn in range(turns):
        words = list(range(2 ** bits))
        chance.shuffle(words)
        chosen = []
        for word in words[:chance.randint(0, 2 ** bits)]:
            if turn % 3 == 0 or is_apart(chosen + [word], d):
                chosen.append(word)
        yield sorted(chosen)


class Rows(unittest.TestCase):
    def test_wrong_rows_are_refused(self):
        for bits, d in GOALS:
            for row in wrong_words(bits):
                with self.subTest(bits=bits, d=d, row=row):
                    answered = ask(("begin", bits, d), *((name, row) for name in OF_WORDS), "told")
                    self.assertEqual(answered, [[0]] + [[-22]] * 4 + [[bits, d]])

    def test_a_wrong_row_is_told_ahead_of_not_apart(self):
        # Of these no two are far enough from one another.
        self.assertEqual(ask_last(("begin", 3, 3), ("fill", [0, 1, 8])), [-22])
        self.assertEqual(ask_last(("begin", 3, 3), ("fill", [1, 0])), [-22])
        self.assertEqual(ask_last(("begin", 3, 3), ("fill", [0, 0])), [-22])
        self.assertEqual(ask_last(("begin", 3, 3), ("fill", [0, 1])), [-33])

    def test_not_begun_is_told_ahead_of_all(self):
        for name in OF_WORDS:
            for row in ([], [0], [1, 0], [0, 1], [LARGEST] * 64):
                with self.subTest(name=name, row=row):
                    self.assertEqual(ask((name, row), ("begin", 0, 1), (name, row)), [[-61], [-22], [-61]])
        self.assertEqual(ask("taken", ("begin", 3, 4), "taken", "told"), [[-61], [-22], [-61], [-61]])

    def test_every_row_of_small_numbers_in_any_order(self):
        for bits in (1, 2):
            for many in range(5):
                for row in product(range(2 ** bits + 1), repeat=many):
                    row = list(row)
                    for d in range(1, bits + 1):
                        answered = ask(("begin", bits, d), *((name, row) for name in OF_WORDS))[1:]
                        self.assertEqual(answered, [looked(bits, d, name, [row]) for name in OF_WORDS], (bits, d, row))

    def test_every_right_row_of_three_bits(self):
        for row in every_row(3):
            for d in (1, 2, 3):
                answered = ask(("begin", 3, d), *((name, row) for name in OF_WORDS))[1:]
                self.assertEqual(answered, [looked(3, d, name, [row]) for name in OF_WORDS], (d, row))

    def test_rows_by_chance(self):
        chance = random.Random(64)
        for bits, d in GOALS:
            for row in rows_by_chance(chance, bits, d, 30):
                answered = ask(("begin", bits, d), *((name, row) for name in OF_WORDS))[1:]
                self.assertEqual(answered, [looked(bits, d, name, [row]) for name in OF_WORDS], (bits, d, row))

    def test_all_64_words(self):
        row = list(range(64))
        every = [7] + [part for count in (1, 6, 15, 20, 15, 6, 1) for part in (count, 1)]
        self.assertEqual(ask(("begin", 6, 1), ("apart", row), ("more", row), ("fill", row), ("held", row))[1:],
                         [[1], [0], [64] + row, every])
        for d in range(2, 7):
            self.assertEqual(ask(("begin", 6, d), ("apart", row), ("more", row), ("fill", row), ("held", row))[1:],
                             [[0], [0], [-33], every])

    def test_64_words_of_fewer_bits_are_refused(self):
        for bits in range(1, 6):
            for name in OF_WORDS:
                self.assertEqual(ask_last(("begin", bits, 1), (name, list(range(64)))), [-22])

    def test_right_for_one_begin_and_not_for_the_next(self):
        for name in OF_WORDS:
            with self.subTest(name=name):
                row = [0, 31]
                answered = ask(("begin", 5, 3), (name, row), ("begin", 4, 3), (name, row), ("begin", 6, 5), (name, row),
                               ("begin", 7, 5), (name, row))
                self.assertEqual(answered, [[0], looked(5, 3, name, [row]), [0], [-22], [0],
                                            looked(6, 5, name, [row]), [-22], looked(6, 5, name, [row])])

    def test_goal_in_between(self):
        row = [0, 7]
        answered = ask(("begin", 4, 3), ("apart", row), ("goal", 4), ("apart", row), ("fill", row), ("more", [0]),
                       ("goal", 5), ("more", [0]), ("goal", 2), ("apart", row), ("more", row), ("fill", row), "taken")
        self.assertEqual(answered, [[0], [1], [3], [0], [-33], [1, 15], [-22], [1, 15], [4], [1],
                                    more(4, 2, row), fill(4, 2, row), [8, 0, 3, 5, 6, 9, 10, 12, 15]])


class Taken(unittest.TestCase):
    def test_by_hand(self):
        self.assertEqual(ask_last(("begin", 1, 1), "taken"), [2, 0, 1])
        self.assertEqual(ask_last(("begin", 2, 2), "taken"), [2, 0, 3])
        self.assertEqual(ask_last(("begin", 3, 2), "taken"), [4, 0, 3, 5, 6])
        self.assertEqual(ask_last(("begin", 5, 3), "taken"), [4, 0, 7, 25, 30])
        self.assertEqual(ask_last(("begin", 6, 4), "taken"), [4, 0, 15, 51, 60])

    def test_one_by_one(self):
        for bits, d in GOALS:
            with self.subTest(bits=bits, d=d):
                words = filled(bits, d, [])
                self.assertEqual(ask_last(("begin", bits, d), "taken"), [len(words)] + words)
                self.assertEqual(words, sorted(words))

    def test_d_of_1_takes_all(self):
        for bits in range(1, 7):
            self.assertEqual(ask_last(("begin", bits, 1), "taken"), [2 ** bits] + list(range(2 ** bits)))

    def test_d_as_many_as_the_bits_takes_two(self):
        for bits in range(1, 7):
            self.assertEqual(ask_last(("begin", bits, bits), "taken"), [2, 0, 2 ** bits - 1])


class Apart(unittest.TestCase):
    def test_no_words_and_one_word(self):
        for bits, d in GOALS:
            for row in [[]] + [[word] for word in range(2 ** bits)]:
                with self.subTest(bits=bits, d=d, row=row):
                    self.assertEqual(ask_last(("begin", bits, d), ("apart", row)), [1])

    def test_every_two(self):
        for bits in range(1, 7):
            goals = [call for d in range(1, bits + 1) for call in (("goal", d), ("apart", None))]
            for one, other in combinations(range(2 ** bits), 2):
                calls = [("apart", [one, other]) if call[0] == "apart" else call for call in goals]
                answered = ask(("begin", bits, 1), *calls)[2::2]
                self.assertEqual(answered, [apart(bits, d, [one, other]) for d in range(1, bits + 1)], (one, other))

    def test_any_two_count(self):
        # Just the first and the last, the first two, or the last two, are too near.
        self.assertEqual(ask_last(("begin", 4, 2), ("apart", [0, 3, 8])), [0])
        self.assertEqual(ask_last(("begin", 4, 2), ("apart", [0, 1, 14])), [0])
        self.assertEqual(ask_last(("begin", 4, 2), ("apart", [0, 14, 15])), [0])
        self.assertEqual(ask_last(("begin", 4, 2), ("apart", [0, 3, 12])), [1])
        self.assertEqual(ask_last(("begin", 4, 3), ("apart", [0, 7])), [1])
        self.assertEqual(ask_last(("begin", 4, 3), ("apart", [0, 6])), [0])


class More(unittest.TestCase):
    def test_no_words_leave_all(self):
        for bits, d in GOALS:
            self.assertEqual(ask_last(("begin", bits, d), ("more", [])), [2 ** bits] + list(range(2 ** bits)))

    def test_one_word(self):
        for bits, d in GOALS:
            for word in range(2 ** bits):
                with self.subTest(bits=bits, d=d, word=word):
                    self.assertEqual(ask_last(("begin", bits, d), ("more", [word])), more(bits, d, [word]))
        self.assertEqual(ask_last(("begin", 3, 3), ("more", [5])), [1, 2])
        self.assertEqual(ask_last(("begin", 3, 1), ("more", [5])), [7, 0, 1, 2, 3, 4, 6, 7])

    def test_these_need_not_be_apart(self):
        self.assertEqual(ask_last(("begin", 3, 2), ("more", [0, 1])), [2, 6, 7])
        self.assertEqual(ask_last(("begin", 3, 2), ("more", [0, 7])), [0])

    def test_those_there_need_not_be_apart_from_one_another(self):
        self.assertEqual(ask_last(("begin", 3, 2), ("more", [0])), [4, 3, 5, 6, 7])


class Fill(unittest.TestCase):
    def test_no_words_are_filled_as_taken(self):
        for bits, d in GOALS:
            answered = ask(("begin", bits, d), ("fill", []), "taken")[1:]
            self.assertEqual(answered[0], answered[1], (bits, d))

    def test_those_told_ahead_of_those_put_in(self):
        self.assertEqual(ask_last(("begin", 3, 2), ("fill", [5])), [4, 5, 0, 3, 6])
        self.assertEqual(ask_last(("begin", 3, 2), ("fill", [1])), [4, 1, 2, 4, 7])
        self.assertEqual(ask_last(("begin", 3, 3), ("fill", [4])), [2, 4, 3])
        self.assertEqual(ask_last(("begin", 1, 1), ("fill", [1])), [2, 1, 0])
        self.assertEqual(ask_last(("begin", 2, 1), ("fill", [1, 3])), [4, 1, 3, 0, 2])

    def test_from_each_word(self):
        for bits, d in GOALS:
            for word in range(2 ** bits):
                with self.subTest(bits=bits, d=d, word=word):
                    self.assertEqual(ask_last(("begin", bits, d), ("fill", [word])), fill(bits, d, [word]))

    def test_not_taken_from_0_on_there_may_be_fewer(self):
        self.assertEqual(ask_last(("begin", 3, 2), ("fill", [0, 7])), [2, 0, 7])
        self.assertEqual(ask(("begin", 6, 3), ("fill", [0, 63]), "taken")[1:],
                         [fill(6, 3, [0, 63]), [8, 0, 7, 25, 30, 42, 45, 51, 52]])
        self.assertLess(fill(6, 3, [0, 63])[0], 8)

    def test_not_apart_is_refused(self):
        self.assertEqual(ask_last(("begin", 3, 2), ("fill", [0, 1])), [-33])
        self.assertEqual(ask_last(("begin", 6, 6), ("fill", [0, 62])), [-33])
        self.assertEqual(ask_last(("begin", 6, 6), ("fill", [0, 63])), [2, 0, 63])
        for bits, d in GOALS:
            if d > 1:
                row = list(range(2 ** bits))
                self.assertEqual(ask(("begin", bits, d), ("fill", row), "told"), [[0], [-33], [bits, d]])

    def test_those_that_are_full_stay_as_they_are(self):
        for bits, d in GOALS:
            taken = ask_last(("begin", bits, d), "taken")
            self.assertEqual(ask_last(("begin", bits, d), ("fill", taken[1:])), taken)

    def test_nothing_is_left_there(self):
        answered = ask(("begin", 3, 2), ("fill", [5]), ("fill", []), "taken", ("more", []), ("fill", [5]))
        self.assertEqual(answered[1:], [[4, 5, 0, 3, 6], [4, 0, 3, 5, 6], [4, 0, 3, 5, 6],
                                        [8, 0, 1, 2, 3, 4, 5, 6, 7], [4, 5, 0, 3, 6]])


class Held(unittest.TestCase):
    def test_no_words_are_refused(self):
        for bits, d in GOALS:
            self.assertEqual(ask(("begin", bits, d), ("held", []), "told"), [[0], [-6], [bits, d]])

    def test_one_word(self):
        for bits, d in GOALS:
            for word in range(2 ** bits):
                self.assertEqual(ask_last(("begin", bits, d), ("held", [word])), [bits + 1, 1, 1] + [0, 1] * bits)

    def test_by_hand(self):
        self.assertEqual(ask_last(("begin", 1, 1), ("held", [0, 1])), [2, 1, 1, 1, 1])
        self.assertEqual(ask_last(("begin", 3, 2), ("held", [0, 3, 5, 6])), [4, 1, 1, 0, 1, 3, 1, 0, 1])
        # Of 0, 1 and 3 two twos are at a distance of 1, one at 2; each counts in both orders.
        self.assertEqual(ask_last(("begin", 2, 1), ("held", [0, 1, 3])), [3, 1, 1, 4, 3, 2, 3])
        self.assertEqual(ask_last(("begin", 2, 2), ("held", [0, 1, 3])), [3, 1, 1, 4, 3, 2, 3])

    def test_every_row_of_few_bits(self):
        for bits in (1, 2, 3):
            for row in every_row(bits):
                self.assertEqual(ask_last(("begin", bits, 1), ("held", row)), held(bits, row), (bits, row))

    def test_fractions_have_nothing_in_common(self):
        chance = random.Random(33)
        for bits, d in GOALS:
            for row in rows_by_chance(chance, bits, d, 10):
                if not row:
                    continue
                answer = ask_last(("begin", bits, d), ("held", row))
                self.assertEqual(answer[0], bits + 1)
                self.assertEqual(len(answer), 1 + 2 * (bits + 1))
                for above, below in zip(answer[1::2], answer[2::2]):
                    self.assertEqual(gcd(above, below), 1, row)
                    self.assertGreaterEqual(below, 1)
                    self.assertGreaterEqual(above, 0)

    def test_d_does_not_matter(self):
        row = [0, 1, 2, 7, 9, 31]
        self.assertEqual({tuple(ask_last(("begin", 5, d), ("held", row))) for d in range(1, 6)}, {tuple(held(5, row))})


if __name__ == "__main__":
    unittest.main()
