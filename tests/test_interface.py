"""'The interface': the one list that is handed in, the one that is given back, and nothing kept or printed."""

import contextlib
import inspect
import io
import random
import unittest

import farwordsdesk.bounds
from farwordsdesk.bounds import answers
from model import LARGEST, at, plain_bounds, proves, taken_apart, written

PLAIN = ("by_balls", "by_cut", "by_mean", "by_even", "least")


def line_by_chance(chance):
    """Up to 60 calls of the nine, right and wrong, and what each must be answered, worked out beside."""
    calls = []
    expected = []
    bits = d = 0
    for turn in range(chance.randint(1, 60)):
        name = chance.choice(("begin", "goal", "proves", "at", *PLAIN))
        row = [chance.choice((0, 1, 1, 2, 3, 1000, chance.choice((1, 1001, LARGEST))))
               for place in range(chance.choice((bits + 1, bits + 1, bits + 1, chance.randint(0, 7))))]
        number = chance.choice((0, 1, 2, 3, 4, 5, 6, 7, LARGEST))
        if name == "begin":
            new_bits = chance.choice((0, 1, 2, 3, 4, 5, 6, 7, LARGEST))
            calls.append((name, new_bits, number))
            right = 1 <= number <= new_bits <= 6
            expected.append([0] if right else [-22])
            if right:
                bits, d = new_bits, number
            continue
        calls.append({"goal": (name, number), "proves": (name, row), "at": (name, number, row)}.get(name, name))
        if bits == 0:
            expected.append([-61])
        elif name == "goal":
            right = 1 <= number <= bits
            expected.append([d] if right else [-22])
            d = number if right else d
        elif name == "proves":
            expected.append(proves(bits, d, row))
        elif name == "at":
            expected.append(at(bits, number, row))
        else:
            expected.append([plain_bounds(bits, d)[PLAIN.index(name)]])
    return calls, expected


class Interface(unittest.TestCase):
    def test_the_function_is_as_told(self):
        self.assertEqual(str(inspect.signature(answers)), "(calls)")
        self.assertEqual(answers.__module__, "farwordsdesk.bounds")

    def test_the_very_numbers(self):
        self.assertEqual(answers([0, 4, 3]), [1, 0])
        self.assertEqual(answers([2]), [1, -61])
        self.assertEqual(answers([0, 4, 3, 1, 2, 1, 9]), [1, 0, 1, 3, 1, -22])
        self.assertEqual(answers([0, 5, 4, 2, 3, 4, 5, 6]), [1, 0, 1, 5, 1, 4, 1, 2, 1, 2, 1, 2])
        self.assertEqual(answers([0, 5, 4, 7, 6, 3, 1, 0, 0, 0, 0]), [1, 0, 3, 2, 8, 3])
        self.assertEqual(answers([0, 1, 1, 8, 1, 2, 2, 5, 3]), [1, 0, 2, 0, -3, 1, 2])
        self.assertEqual(answers([0, 1, 1, 7, 0, 8, 0, 0, 3]), [1, 0, 1, -22, 1, -22, 1, 2])
        self.assertEqual(answers([7, 2, 0, 6, 0, 6, 6, 6]), [1, -61, 1, 0, 1, 2])

    def test_lines_by_chance(self):
        chance = random.Random(5000)
        for turn in range(1500):
            calls, expected = line_by_chance(chance)
            handed = written(*calls)
            self.assertEqual(taken_apart(answers(handed)), expected, handed)

    def test_sixty_calls(self):
        calls = [("begin", 6, 3)] + [("proves", [1] * 7)] * 29 + [("at", 0, [1000] * 7)] * 30
        expected = [[0]] + [[64, 64, 1]] * 29 + [[0, 64000]] * 30
        self.assertEqual(taken_apart(answers(written(*calls))), expected)
        self.assertEqual(answers([4] * 60), [1, -61] * 60)
        self.assertEqual(answers([0, 1, 1] * 60), [1, 0] * 60)

    def test_the_longest_line_there_is(self):
        handed = written(*([("held", [LARGEST] * 64)] * 60))
        self.assertLessEqual(len(handed), 5000)
        self.assertEqual(answers(handed), [1, -61] * 60)

    def test_the_largest_numbers_everywhere(self):
        handed = [0, LARGEST, LARGEST, 1, LARGEST, 0, 6, 6, 0, LARGEST, 1, 1, LARGEST,
                  7, 7] + [LARGEST] * 7 + [8, LARGEST, 7] + [LARGEST] * 7 + [8, 0, 1, LARGEST, 6]
        self.assertEqual(taken_apart(answers(handed)), [[-22], [-61], [0], [-22], [-22], [-22], [-22], [-22], [2]])

    def test_what_is_handed_in_is_the_same_afterwards(self):
        chance = random.Random(7)
        for turn in range(200):
            handed = written(*line_by_chance(chance)[0])
            before = list(handed)
            given = answers(handed)
            self.assertEqual(handed, before)
            self.assertIsNot(given, handed)

    def test_what_is_handed_in_is_not_changed_for_a_while_either(self):
        class Fixed(list):
            def refuse(self, *given):
                raise AssertionError("what was handed in was changed")

            append = extend = insert = pop = remove = clear = sort = reverse = refuse
            __setitem__ = __delitem__ = __iadd__ = __imul__ = refuse

        chance = random.Random(8)
        for turn in range(100):
            calls, expected = line_by_chance(chance)
            self.assertEqual(taken_apart(answers(Fixed(written(*calls)))), expected)

    def test_a_second_time_answers_as_the_first(self):
        chance = random.Random(9)
        for turn in range(200):
            handed = written(*line_by_chance(chance)[0])
            first = answers(handed)
            kept = list(first)
            answers([0, 6, 2, 1, 3])
            self.assertEqual(answers(handed), kept)
            first.append(0)
            self.assertEqual(answers(handed), kept)

    def test_each_time_the_object_is_new(self):
        self.assertEqual(answers([0, 3, 2]), [1, 0])
        self.assertEqual(answers([6]), [1, -61])

    def test_what_is_given_back_is_a_list_of_whole_numbers(self):
        chance = random.Random(10)
        for turn in range(100):
            given = answers(written(*line_by_chance(chance)[0]))
            self.assertIs(type(given), list)
            self.assertEqual({type(number) for number in given}, {int})

    def test_it_prints_nothing(self):
        heard = io.StringIO()
        with contextlib.redirect_stdout(heard), contextlib.redirect_stderr(heard):
            answers([6, 0, 4, 3, 1, 2, 2, 3, 4, 5, 6, 7, 1, 1, 8, 9, 0])
        self.assertEqual(heard.getvalue(), "")

    def test_the_file_holds_the_function_itself(self):
        self.assertEqual(inspect.getsourcefile(answers), inspect.getsourcefile(farwordsdesk.bounds))


if __name__ == "__main__":
    unittest.main()
