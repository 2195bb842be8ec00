"""'The interface': the one list that is handed in, the one that is given back, and nothing kept or printed."""

import contextlib
import inspect
import io
import random
import unittest

import farwordsdesk.bounds
from farwordsdesk.bounds import answers
from model import LARGEST, NUMBERS, best_proof, filled, held, looked, spread, taken_apart, written


def numbers_by_chance(chance, bits):
    return [chance.choice((0, 1, 1, 2, 3, 1000, chance.choice((1, 1001, LARGEST))))
            for place in range(chance.choice((bits + 1, bits + 1, bits + 1, chance.randint(0, 7))))]


def words_by_chance(chance, bits, d):
    """A row of words: some of all, some that are apart, or, now and then, one with a slip in it."""
    every = range(2 ** max(bits, 1))
    row = sorted(chance.sample(every, chance.randint(0, len(every))))
    if bits > 0 and chance.random() < 0.6:
        row = filled(bits, d, [chance.choice(every)])
        row = sorted(chance.sample(row, chance.randint(0, len(row))))
    slip = chance.randint(0, 12)
    if slip == 0:
        row = row[:63] + [chance.choice((len(every), 64, LARGEST))]
    elif slip == 1:
        row = row[:1] + row[:63]
    elif slip == 2:
        chance.shuffle(row)
    return row


def line_by_chance(chance):
    """Up to 60 calls, right and wrong, and what each must be answered, worked out beside."""
    calls = []
    expected = []
    bits = d = 0
    for turn in range(chance.randint(1, 60)):
        name = chance.choice(tuple(NUMBERS))
        number = chance.choice((0, 1, 2, 3, 4, 5, 6, 7, LARGEST))
        if name == "begin":
            new_bits = chance.choice((0, 1, 2, 3, 4, 5, 6, 7, LARGEST))
            calls.append((name, new_bits, number))
            right = 1 <= number <= new_bits <= 6
            expected.append([0] if right else [-22])
            if right:
                bits, d = new_bits, number
            continue
        given = []
        if name in ("goal", "at"):
            given.append(number)
        if name in ("proves", "at"):
            given.append(numbers_by_chance(chance, bits))
        if name in ("apart", "more", "fill", "held"):
            given.append(words_by_chance(chance, bits, d))
        calls.append((name, *given))
        if bits == 0:
            expected.append([-61])
        elif name == "goal":
            right = 1 <= number <= bits
            expected.append([d] if right else [-22])
            d = number if right else d
        else:
            expected.append(looked(bits, d, name, given))
    return calls, expected


class Interface(unittest.TestCase):
    def test_the_function_is_as_told(self):
        self.assertEqual(str(inspect.signature(answers)), "(calls)")
        self.assertEqual(answers.__module__, "farwordsdesk.bounds")

    def test_the_very_numbers(self):
        self.assertEqual(answers([0, 4, 3]), [1, 0])
        self.assertEqual(answers([2]), [1, -61])
        self.assertEqual(answers([0, 4, 3, 1, 2, 1, 9]), [1, 0, 1, 3, 1, -22])
        self.assertEqual(answers([0, 5, 4, 2, 3, 4, 5, 6]), [1, 0, 1, 5, 1, 4, 1, 2, 1, 2, 1, 2])
        self.assertEqual(answers([0, 5, 4, 7, 6, 3, 1, 0, 0, 0, 0]), [1, 0, 3, 2, 8, 3])
        self.assertEqual(answers([0, 1, 1, 8, 1, 2, 2, 5, 3]), [1, 0, 2, 0, -3, 1, 2])
        self.assertEqual(answers([0, 1, 1, 7, 0, 8, 0, 0, 3]), [1, 0, 1, -22, 1, -22, 1, 2])
        self.assertEqual(answers([7, 2, 0, 6, 0, 6, 6, 6]), [1, -61, 1, 0, 1, 2])
        self.assertEqual(answers([0, 2, 2, 9, 10]), [1, 0, 7, 2, 2, 1, 1, 2, 0, 1, 5, 1, 1, 1, 2, 1])
        self.assertEqual(answers([0, 3, 2, 11, 16]), [1, 0, 5, 4, 0, 3, 5, 6, 2, 3, 2])
        self.assertEqual(answers([0, 3, 2, 12, 2, 0, 3, 12, 0, 12, 2, 3, 0]), [1, 0, 1, 1, 1, 1, 1, -22])
        self.assertEqual(answers([0, 3, 2, 13, 2, 0, 1, 13, 2, 0, 7]), [1, 0, 3, 2, 6, 7, 1, 0])
        self.assertEqual(answers([0, 3, 2, 14, 1, 5, 14, 2, 0, 1, 16]), [1, 0, 5, 4, 5, 0, 3, 6, 1, -33, 2, 3, 2])
        self.assertEqual(answers([0, 2, 1, 15, 3, 0, 1, 3, 15, 0]), [1, 0, 7, 3, 1, 1, 4, 3, 2, 3, 1, -6])
        self.assertEqual(answers([9, 10, 11, 12, 0, 13, 1, 9, 14, 0, 15, 0, 16]), [1, -61] * 8)

    def test_lines_by_chance(self):
        chance = random.Random(5000)
        for turn in range(400):
            calls, expected = line_by_chance(chance)
            handed = written(*calls)
            self.assertEqual(taken_apart(answers(handed)), expected, handed)

    def test_lines_by_chance_meet_every_answer(self):
        chance = random.Random(5000)
        met = set()
        for turn in range(400):
            calls, expected = line_by_chance(chance)
            met.update((call[0], min(answer[0], 0)) for call, answer in zip(calls, expected))
        refusals = {name: {-61} for name in NUMBERS}
        refusals["begin"] = {-22}
        for name, more in (("goal", [-22]), ("by_mean", [-33]), ("by_even", [-33]), ("proves", [-22, -33]),
                           ("at", [-22]), ("apart", [-22]), ("more", [-22]), ("fill", [-22, -33]),
                           ("held", [-22, -6])):
            refusals[name].update(more)
        self.assertEqual(met, {(name, number) for name in NUMBERS for number in refusals[name] | {0}})

    def test_sixty_calls(self):
        calls = [("begin", 6, 3)] + [("proves", [1] * 7)] * 29 + [("at", 0, [1000] * 7)] * 30
        expected = [[0]] + [[64, 64, 1]] * 29 + [[0, 64000]] * 30
        self.assertEqual(taken_apart(answers(written(*calls))), expected)
        calls = [("begin", 6, 1)] + ["best_proof", "spread"] * 29 + ["told"]
        expected = [[0]] + [best_proof(6, 1), spread(6, 1)] * 29 + [[6, 1]]
        self.assertEqual(taken_apart(answers(written(*calls))), expected)
        self.assertEqual(answers([4] * 60), [1, -61] * 60)
        self.assertEqual(answers([0, 1, 1] * 60), [1, 0] * 60)

    def test_the_longest_line_there_is(self):
        handed = written(*([("held", [LARGEST] * 64)] * 60))
        self.assertLessEqual(len(handed), 5000)
        self.assertEqual(answers(handed), [1, -61] * 60)
        every = list(range(64))
        handed = written(("begin", 6, 1), *([("held", every)] * 30), *([("fill", every)] * 29))
        expected = [[0]] + [held(6, every)] * 30 + [[64] + every] * 29
        self.assertEqual(taken_apart(answers(handed)), expected)

    def test_the_largest_numbers_everywhere(self):
        handed = [0, LARGEST, LARGEST, 1, LARGEST, 0, 6, 6, 0, LARGEST, 1, 1, LARGEST,
                  7, 7] + [LARGEST] * 7 + [8, LARGEST, 7] + [LARGEST] * 7 + [8, 0, 1, LARGEST, 6]
        self.assertEqual(taken_apart(answers(handed)), [[-22], [-61], [0], [-22], [-22], [-22], [-22], [-22], [2]])

    def test_what_is_handed_in_is_the_same_afterwards(self):
        chance = random.Random(7)
        for turn in range(200):
            handed = written(*line_by_chance(chance)[0])
            before = list(handed)
            given = answers(handed)
            self.assertEqual(handed, before)
            self.assertIsNot(given, handed)

    def test_what_is_handed_in_is_not_changed_for_a_while_either(self):
        class Fixed(list):
            def refuse(self, *given):
                raise AssertionError("what was handed in was changed")

            append = extend = insert = pop = remove = clear = sort = reverse = refuse
            __setitem__ = __delitem__ = __iadd__ = __imul__ = refuse

        chance = random.Random(8)
        for turn in range(100):
            calls, expected = line_by_chance(chance)
            self.assertEqual(taken_apart(answers(Fixed(written(*calls)))), expected)

    def test_a_second_time_answers_as_the_first(self):
        chance = random.Random(9)
        for turn in range(200):
            handed = written(*line_by_chance(chance)[0])
            first = answers(handed)
            kept = list(first)
            answers([0, 6, 2, 1, 3])
            self.assertEqual(answers(handed), kept)
            first.append(0)
            self.assertEqual(answers(handed), kept)

    def test_each_time_the_object_is_new(self):
        self.assertEqual(answers([0, 3, 2]), [1, 0])
        self.assertEqual(answers([6]), [1, -61])

    def test_what_is_given_back_is_a_list_of_whole_numbers(self):
        chance = random.Random(10)
        for turn in range(100):
            given = answers(written(*line_by_chance(chance)[0]))
            self.assertIs(type(given), list)
            self.assertEqual({type(number) for number in given}, {int})

    def test_it_prints_nothing(self):
        heard = io.StringIO()
        with contextlib.redirect_stdout(heard), contextlib.redirect_stderr(heard):
            answers([6, 0, 4, 3, 1, 2, 2, 3, 4, 5, 6, 7, 1, 1, 8, 9, 0])
            answers([0, 4, 3, 9, 10, 11, 12, 0, 13, 1, 4, 14, 2, 0, 1, 15, 0, 16])
        self.assertEqual(heard.getvalue(), "")

    def test_the_file_holds_the_function_itself(self):
        self.assertEqual(inspect.getsourcefile(answers), inspect.getsourcefile(farwordsdesk.bounds))


if __name__ == "__main__":
    unittest.main()
