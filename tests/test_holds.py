"""'What holds', a to e, over every number of bits and every d, by the program's own answers."""

import random
import unittest
from fractions import Fraction
from itertools import combinations

from model import GOALS, LARGEST, PLAIN, ask, ask_last, distance, fractions_of, is_apart


def most_apart(bits, d):
    """How many words can be apart, by trying: each either is there or not."""
    found = 0
    waiting = [([], list(range(2 ** bits)))]
    while waiting:
        there, left = waiting.pop()
        found = max(found, len(there))
        if len(there) + len(left) > found:
            word, rest = left[0], left[1:]
            waiting.append((there, rest))
            waiting.append((there + [word], [other for other in rest if distance(word, other) >= d]))
    return found


def sets_apart(bits, d):
    """Words apart, told by the program: taken, filled from here and there, and some of these."""
    chance = random.Random(bits * 10 + d)
    yield []
    yield ask_last(("begin", bits, d), "taken")[1:]
    for turn in range(12):
        words = ask_last(("begin", bits, d), ("fill", [chance.randrange(2 ** bits)]))[1:]
        yield sorted(words)
        yield sorted(chance.sample(words, chance.randint(0, len(words))))


def proofs(bits, d):
    """Rows that the program says are proofs."""
    chance = random.Random(bits * 100 + d)
    for turn in range(60):
        row = [chance.randint(1, 4)] + [chance.choice((0, 1, 1, 2, 4)) for place in range(bits)]
        if ask_last(("begin", bits, d), ("proves", row)) != [-33]:
            yield row
    yield [1] * (bits + 1)


class Holds(unittest.TestCase):
    def test_a_no_more_words_than_a_proof_proves(self):
        for bits, d in GOALS:
            rows = list(proofs(bits, d))
            for words in sets_apart(bits, d):
                self.assertEqual(ask_last(("begin", bits, d), ("apart", words)), [1])
                for row in rows:
                    come_to = ask_last(("begin", bits, d), ("at", 0, row))[1]
                    self.assertLessEqual(len(words) * row[0], come_to, (bits, d, row, words))

    def test_a_nor_than_any_bound_told_plainly(self):
        for bits, d in GOALS:
            bounds = [answer[0] for answer in ask(("begin", bits, d), *PLAIN)[1:] if answer != [-33]]
            for words in sets_apart(bits, d):
                self.assertLessEqual(len(words), min(bounds), (bits, d, words))

    def test_b_words_apart_are_no_more_than_the_greatest_spread(self):
        for bits, d in GOALS:
            proof, spread = ask(("begin", bits, d), "best_proof", "spread")[1:]
            self.assertEqual(proof[1:3], spread[-2:])
            for words in sets_apart(bits, d):
                self.assertLessEqual(len(words), proof[0])
                if words:
                    stand = fractions_of(ask_last(("begin", bits, d), ("held", words))[1:])
                    self.assertLessEqual(1 + sum(stand[d:]), Fraction(*spread[-2:]))

    def test_b_the_best_proof_is_at_least_as_good_as_the_plain_bounds_but_by_evening(self):
        for bits, d in GOALS:
            balls, cut, mean = ask(("begin", bits, d), "by_balls", "by_cut", "by_mean")[1:]
            best = ask_last(("begin", bits, d), "best_proof")[0]
            for bound in (balls, cut, mean):
                if bound != [-33]:
                    self.assertLessEqual(best, bound[0], (bits, d))

    def test_c_taken_words_are_closed_under_sums(self):
        for bits, d in GOALS:
            words = ask_last(("begin", bits, d), "taken")[1:]
            for one in words:
                for other in words:
                    self.assertIn(one ^ other, words, (bits, d))

    def test_d_as_many_as_the_least_plain_bound(self):
        for bits, d in GOALS:
            with self.subTest(bits=bits, d=d):
                taken, least = ask(("begin", bits, d), "taken", "least")[1:]
                self.assertEqual(taken[0], least[0])
                self.assertEqual(len(taken), 1 + taken[0])

    def test_d_as_many_as_can_be_by_trying(self):
        for bits, d in GOALS:
            if bits < 5 or d > 2:
                with self.subTest(bits=bits, d=d):
                    self.assertEqual(ask_last(("begin", bits, d), "taken")[0], most_apart(bits, d))

    def test_e_filled_nothing_can_be_put_in_and_what_was_there_is(self):
        for bits, d in GOALS:
            for words in sets_apart(bits, d):
                with self.subTest(bits=bits, d=d, words=words):
                    answer = ask_last(("begin", bits, d), ("fill", words))
                    full = sorted(answer[1:])
                    self.assertEqual(answer[0], len(set(full)))
                    self.assertEqual(answer[1:1 + len(words)], words)
                    self.assertEqual(answer[1 + len(words):], sorted(answer[1 + len(words):]))
                    self.assertTrue(is_apart(full, d))
                    self.assertEqual(ask(("begin", bits, d), ("more", full), ("apart", full), ("fill", full))[1:],
                                     [[0], [1], [len(full)] + full])

    def test_e_each_of_more_can_be_put_in(self):
        for bits, d in GOALS:
            for words in sets_apart(bits, d):
                for word in ask_last(("begin", bits, d), ("more", words))[1:]:
                    self.assertTrue(is_apart(words + [word], d))

    def test_e_farther_apart_no_more(self):
        for bits in range(1, 7):
            calls = [call for d in range(1, bits + 1) for call in (("goal", d), "taken", "least", "spread")]
            answered = ask(("begin", bits, 1), *calls)[1:]
            for told in (answered[1::4], answered[2::4]):
                counts = [answer[0] for answer in told]
                self.assertEqual(counts, sorted(counts, reverse=True))
            together = [Fraction(*answer[-2:]) for answer in answered[3::4]]
            self.assertEqual(together, sorted(together, reverse=True))

    def test_e_farther_apart_no_more_can_be_put_in(self):
        chance = random.Random(50)
        for bits, d in GOALS:
            for turn in range(10):
                row = sorted(chance.sample(range(2 ** bits), chance.randint(0, min(4, 2 ** bits))))
                far = [ask_last(("begin", bits, d), ("goal", goal), ("more", row))[1:] for goal in range(1, bits + 1)]
                for nearer, farther in zip(far, far[1:]):
                    self.assertLessEqual(set(farther), set(nearer))
                apart = [ask_last(("begin", bits, d), ("goal", goal), ("apart", row))[0]
                         for goal in range(1, bits + 1)]
                self.assertEqual(apart, sorted(apart, reverse=True))

    def test_e_refused_and_looking_changes_nothing(self):
        for bits, d in GOALS:
            row = [1] * (bits + 1)
            looks = [*PLAIN, ("proves", row), ("at", bits, row), "best_proof", "spread", "taken", ("apart", [0, 1]),
                     ("more", [0]), ("fill", [1]), ("held", [0, 1]), "told"]
            refused = [("begin", 0, 0), ("begin", bits, bits + 1), ("goal", 0), ("goal", bits + 1), ("goal", LARGEST),
                       ("proves", []), ("proves", [0] * (bits + 1)), ("at", bits + 1, row), ("apart", [1, 0]),
                       ("more", [2 ** bits]), ("fill", [0, 0]), ("held", []), ("held", [LARGEST])]
            once = ask(("begin", bits, d), *looks)[1:]
            with self.subTest(bits=bits, d=d):
                self.assertEqual(once[-1], [bits, d])
                self.assertEqual(ask(("begin", bits, d), *looks, *looks)[1:], once * 2)
                for call in refused:
                    answered = ask(("begin", bits, d), call, *looks)[1:]
                    self.assertLess(answered[0][0], 0)
                    self.assertEqual(len(answered[0]), 1)
                    self.assertEqual(answered[1:], once)
                answered = ask(("begin", bits, d), *refused, *looks)
                self.assertEqual(answered[1 + len(refused):], once)

    def test_twos_of_taken_words_stand_alike_from_each(self):
        # They're closed under sums, so that each sees the others as 0 does: all that is held is a whole number.
        for bits, d in GOALS:
            words = ask_last(("begin", bits, d), "taken")[1:]
            stand = fractions_of(ask_last(("begin", bits, d), ("held", words))[1:])
            self.assertEqual(stand, [sum(1 for word in words if distance(0, word) == i) for i in range(bits + 1)])

    def test_every_two_taken_are_apart(self):
        for bits, d in GOALS:
            words = ask_last(("begin", bits, d), "taken")[1:]
            self.assertTrue(all(distance(one, other) >= d for one, other in combinations(words, 2)))


if __name__ == "__main__":
    unittest.main()
