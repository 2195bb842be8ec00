"""Point 2: by_balls, by_cut, by_mean, by_even, least."""

import unittest

from model import GOALS, ask, plain_bounds

PLAIN = ("by_balls", "by_cut", "by_mean", "by_even", "least")

# Worked out by hand from the words: by_balls, by_cut, by_mean, by_even, least.
TOLD = {
    (1, 1): (2, 2, 2, 2, 2),
    (2, 1): (4, 4, -33, 4, 4),
    (2, 2): (4, 2, 2, 2, 2),
    (3, 1): (8, 8, -33, -33, 8),
    (3, 2): (8, 4, 4, 4, 4),
    (3, 3): (2, 2, 2, 2, 2),
    (4, 1): (16, 16, -33, -33, 16),
    (4, 2): (16, 8, -33, -33, 8),
    (4, 3): (3, 4, 3, 2, 2),
    (4, 4): (3, 2, 2, 2, 2),
    (5, 1): (32, 32, -33, -33, 32),
    (5, 2): (32, 16, -33, -33, 16),
    (5, 3): (5, 8, 6, 4, 4),
    (5, 4): (5, 4, 2, 2, 2),
    (5, 5): (2, 2, 2, 2, 2),
    (6, 1): (64, 64, -33, -33, 64),
    (6, 2): (64, 32, -33, -33, 32),
    (6, 3): (9, 16, -33, 8, 8),
    (6, 4): (9, 8, 4, 4, 4),
    (6, 5): (2, 4, 2, 2, 2),
    (6, 6): (2, 2, 2, 2, 2),
}


def taken_one_by_one(bits, d):
    taken = []
    for word in range(2 ** bits):
        if all(bin(word ^ other).count("1") >= d for other in taken):
            taken.append(word)
    return taken


class PlainBounds(unittest.TestCase):
    def test_every_bits_and_d_are_told(self):
        self.assertEqual(sorted(TOLD), GOALS)

    def test_bounds_as_worked_out_by_hand(self):
        for goal, told in TOLD.items():
            for name, bound in zip(PLAIN, told):
                with self.subTest(goal=goal, name=name):
                    self.assertEqual(ask(("begin", *goal), name), [[0], [bound]])

    def test_bounds_as_counted_out(self):
        for goal in GOALS:
            with self.subTest(goal=goal):
                answered = ask(("begin", *goal), *PLAIN)
                self.assertEqual(answered, [[0]] + [[bound] for bound in plain_bounds(*goal)])

    def test_as_many_as_the_least_can_be_taken(self):
        for goal in GOALS:
            with self.subTest(goal=goal):
                self.assertEqual(ask(("begin", *goal), "least")[1], [len(taken_one_by_one(*goal))])

    def test_twice_d_just_the_bits_is_refused(self):
        for bits, d in ((2, 1), (4, 2), (6, 3)):
            with self.subTest(bits=bits):
                self.assertEqual(ask(("begin", bits, d), "by_mean"), [[0], [-33]])

    def test_evening_is_asked_of_the_distance_as_it_is_taken_there(self):
        # By the mean there is none of these two, but of one bit and a distance of one more there is.
        self.assertEqual(ask(("begin", 2, 1), "by_mean", "by_even"), [[0], [-33], [4]])
        self.assertEqual(ask(("begin", 6, 3), "by_mean", "by_even"), [[0], [-33], [8]])
        # An even d is taken as it is.
        self.assertEqual(ask(("begin", 4, 2), "by_mean", "by_even"), [[0], [-33], [-33]])

    def test_asking_and_being_refused_changes_nothing(self):
        for goal in GOALS:
            with self.subTest(goal=goal):
                once = ask(("begin", *goal), *PLAIN)[1:]
                self.assertEqual(ask(("begin", *goal), *(PLAIN * 3))[1:], once * 3)
                self.assertEqual(ask(("begin", *goal), *PLAIN, ("goal", 1))[-1], [goal[1]])

    def test_farther_apart_no_more(self):
        for bits in range(1, 7):
            least = [ask(("begin", bits, d), "least")[1][0] for d in range(1, bits + 1)]
            self.assertEqual(least, sorted(least, reverse=True))


if __name__ == "__main__":
    unittest.main()
