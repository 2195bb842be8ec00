"""Point 1: begin, goal and told; and what 'The calls' says of refusals and of an object that isn't begun."""

import unittest

from model import GOALS, LARGEST, NUMBERS, ask, ask_last, plain_bounds

PLAIN = ("by_balls", "by_cut", "by_mean", "by_even", "least")


def bounds_after(*calls):
    """The plain bounds, which between them tell bits and d apart."""
    return [answer[0] for answer in ask(*calls, *PLAIN)[-len(PLAIN):]]


def goal_after(*calls):
    """What d is, as the next goal answers it."""
    return ask_last(*calls, ("goal", 1))


class Begin(unittest.TestCase):
    def test_every_right_begin_is_so(self):
        for bits, d in GOALS:
            with self.subTest(bits=bits, d=d):
                self.assertEqual(ask(("begin", bits, d)), [[0]])
                self.assertEqual(bounds_after(("begin", bits, d)), plain_bounds(bits, d))
                self.assertEqual(goal_after(("begin", bits, d)), [d])

    def test_wrong_bits_or_d_is_refused(self):
        for bits in (0, 1, 2, 3, 4, 5, 6, 7, 8, 64, 1000, LARGEST):
            for d in (0, 1, 2, 3, 4, 5, 6, 7, 8, 64, 1000, LARGEST):
                right = 1 <= bits <= 6 and 1 <= d <= bits
                with self.subTest(bits=bits, d=d):
                    self.assertEqual(ask(("begin", bits, d)), [[0] if right else [-22]])

    def test_begin_again(self):
        for first in GOALS:
            for second in GOALS:
                with self.subTest(first=first, second=second):
                    calls = (("begin", *first), ("begin", *second))
                    self.assertEqual(ask(*calls), [[0], [0]])
                    self.assertEqual(bounds_after(*calls), plain_bounds(*second))
                    self.assertEqual(goal_after(*calls), [second[1]])

    def test_refused_begin_again_changes_nothing(self):
        for bits, d in GOALS:
            for wrong in ((0, 1), (7, 1), (bits, 0), (bits, bits + 1), (6, 7), (1, 2), (LARGEST, LARGEST)):
                with self.subTest(bits=bits, d=d, wrong=wrong):
                    calls = (("begin", bits, d), ("begin", *wrong))
                    self.assertEqual(ask(*calls), [[0], [-22]])
                    self.assertEqual(bounds_after(*calls), plain_bounds(bits, d))
                    self.assertEqual(goal_after(*calls), [d])

    def test_fewer_bits_after_begin_again_hold_for_goal_and_rows(self):
        answered = ask(("begin", 6, 5), ("begin", 2, 1), ("goal", 3), ("goal", 2), ("at", 3, [1, 1, 1]),
                       ("at", 2, [1] * 7), ("at", 2, [1, 1, 1]), ("proves", [1] * 7), ("proves", [1, 1, 1]))
        self.assertEqual(answered, [[0], [0], [-22], [1], [-22], [-22], [0, 0], [-22], [4, 4, 1]])


class Goal(unittest.TestCase):
    def test_answers_what_it_was_and_is_so(self):
        for bits, d in GOALS:
            for new in range(1, bits + 1):
                with self.subTest(bits=bits, d=d, new=new):
                    calls = (("begin", bits, d), ("goal", new))
                    self.assertEqual(ask(*calls), [[0], [d]])
                    self.assertEqual(bounds_after(*calls), plain_bounds(bits, new))
                    self.assertEqual(goal_after(*calls), [new])

    def test_wrong_d_is_refused_and_changes_nothing(self):
        for bits, d in GOALS:
            for wrong in (0, bits + 1, 7, 1000, LARGEST):
                with self.subTest(bits=bits, d=d, wrong=wrong):
                    calls = (("begin", bits, d), ("goal", wrong))
                    self.assertEqual(ask(*calls), [[0], [-22]])
                    self.assertEqual(bounds_after(*calls), plain_bounds(bits, d))
                    self.assertEqual(goal_after(*calls), [d])

    def test_goal_between_begins(self):
        answered = ask(("begin", 5, 2), ("goal", 4), "by_mean", ("begin", 5, 3), ("goal", 5), "by_mean",
                       ("begin", 9, 1), ("goal", 1), ("begin", 3, 4), ("goal", 2))
        self.assertEqual(answered, [[0], [2], [2], [0], [3], [2], [-22], [5], [-22], [1]])

    def test_goal_is_of_proofs_too(self):
        row = [2, 1, 0, 0, 0]
        answered = ask(("begin", 4, 3), ("proves", row), ("goal", 2), ("proves", row), ("goal", 4), ("proves", row))
        self.assertEqual(answered, [[0], [3, 3, 1], [3], [-33], [2], [3, 3, 1]])


class Told(unittest.TestCase):
    def test_bits_then_d(self):
        for bits, d in GOALS:
            with self.subTest(bits=bits, d=d):
                self.assertEqual(ask(("begin", bits, d), "told"), [[0], [bits, d]])

    def test_after_goal_and_begin_again_right_and_wrong(self):
        answered = ask("told", ("begin", 3, 4), "told", ("begin", 6, 4), "told", ("goal", 6), "told", ("goal", 7),
                       "told", ("begin", 2, 1), "told", ("goal", 3), "told", ("begin", 7, 2), "told", "told")
        self.assertEqual(answered, [[-61], [-22], [-61], [0], [6, 4], [4], [6, 6], [-22],
                                    [6, 6], [0], [2, 1], [-22], [2, 1], [-22], [2, 1], [2, 1]])

    def test_every_goal_is_told(self):
        for bits, d in GOALS:
            for new in (0, *range(1, bits + 1), bits + 1, LARGEST):
                with self.subTest(bits=bits, d=d, new=new):
                    now = new if 1 <= new <= bits else d
                    self.assertEqual(ask_last(("begin", bits, d), ("goal", new), "told"), [bits, now])


class NotBegun(unittest.TestCase):
    EVERY_OTHER = (
        ("goal", 1), ("goal", 0), ("goal", LARGEST), "by_balls", "by_cut", "by_mean", "by_even", "least",
        ("proves", []), ("proves", [1, 1]), ("proves", [0] * 7), ("proves", [LARGEST] * 7),
        ("at", 0, []), ("at", 0, [1, 1]), ("at", LARGEST, [LARGEST] * 7),
        "best_proof", "spread", "taken", ("apart", []), ("apart", [1, 0]), ("more", [3]), ("fill", list(range(64))),
        ("held", []), ("held", [LARGEST] * 64), "told",
    )

    def test_each_call_is_there(self):
        names = {call if isinstance(call, str) else call[0] for call in self.EVERY_OTHER}
        self.assertEqual(names, set(NUMBERS) - {"begin"})

    def test_every_other_call_is_refused_first_of_all(self):
        for call in self.EVERY_OTHER:
            with self.subTest(call=call):
                self.assertEqual(ask(call), [[-61]])
                self.assertEqual(ask(call, ("begin", 3, 2), "by_cut"), [[-61], [0], [4]])

    def test_all_of_them_in_one_line(self):
        answered = ask(*self.EVERY_OTHER, ("begin", 3, 2), "by_cut")
        self.assertEqual(answered, [[-61]] * len(self.EVERY_OTHER) + [[0], [4]])

    def test_a_refused_begin_does_not_begin(self):
        for wrong in ((0, 0), (0, 1), (7, 7), (3, 0), (3, 4), (LARGEST, 1), (1, LARGEST)):
            for call in self.EVERY_OTHER:
                with self.subTest(wrong=wrong, call=call):
                    self.assertEqual(ask(("begin", *wrong), call), [[-22], [-61]])

    def test_a_refused_goal_ahead_of_begin_leaves_nothing(self):
        self.assertEqual(ask(("goal", 2), ("begin", 3, 1), ("goal", 3)), [[-61], [0], [1]])


if __name__ == "__main__":
    unittest.main()
