"""What the tests share: calls written into one list, answers taken apart, and the document's words counted out.

Nothing here draws on the program but `ask`: sets and words are gone through one by one, so that a slip in the
program's shorter sums shows.
"""

from fractions import Fraction
from functools import lru_cache
from itertools import combinations
from operator import mul

from farwordsdesk.bounds import answers

LARGEST = 2147483647

NUMBERS = {
    "begin": 0, "goal": 1, "by_balls": 2, "by_cut": 3, "by_mean": 4, "by_even": 5, "least": 6, "proves": 7, "at": 8,
    "best_proof": 9, "spread": 10, "taken": 11, "apart": 12, "more": 13, "fill": 14, "held": 15, "told": 16,
}

GOALS = [(bits, d) for bits in range(1, 7) for d in range(1, bits + 1)]


def written(*calls):
    """The calls, each a name or (name, whole numbers and rows ..), as the one list that is handed in."""
    handed = []
    for call in calls:
        name, *given = (call,) if isinstance(call, str) else call
        handed.append(NUMBERS[name])
        for value in given:
            if isinstance(value, list):
                handed.append(len(value))
                handed.extend(value)
            else:
                handed.append(value)
    return handed


def taken_apart(flat):
    """The answers, one list a call, out of the one list that is given back."""
    apart = []
    place = 0
    while place < len(flat):
        end = place + 1 + flat[place]
        if flat[place] < 1 or end > len(flat):
            raise AssertionError(f"no right count at {place} of {flat}")
        apart.append(flat[place + 1:end])
        place = end
    return apart


def ask(*calls):
    """What each of the calls is answered."""
    return taken_apart(answers(written(*calls)))


def ask_last(*calls):
    """What the last of the calls is answered."""
    return ask(*calls)[-1]


def sign_sum(bits, k, i):
    return sum(1 if sum(1 for bit in chosen if bit < i) % 2 == 0 else -1 for chosen in combinations(range(bits), k))


SIGNS = {
    (bits, k, i): sign_sum(bits, k, i)
    for bits in range(1, 7) for k in range(bits + 1) for i in range(bits + 1)
}


def comes_to(bits, numbers, i):
    return sum(number * SIGNS[bits, k, i] for k, number in enumerate(numbers))


def at(bits, i, numbers):
    if i > bits or len(numbers) != bits + 1 or max(numbers) > 1000:
        return [-22]
    return [0, comes_to(bits, numbers, i)]


def proves(bits, d, numbers):
    if len(numbers) != bits + 1 or max(numbers) > 1000:
        return [-22]
    if numbers[0] == 0 or any(comes_to(bits, numbers, i) > 0 for i in range(d, bits + 1)):
        return [-33]
    bound = Fraction(comes_to(bits, numbers, 0), numbers[0])
    return [bound.numerator // bound.denominator, bound.numerator, bound.denominator]


def by_balls(bits, d):
    return 2 ** bits // sum(1 for word in range(2 ** bits) if bin(word).count("1") <= (d - 1) // 2)


def by_mean(bits, d):
    return int(Fraction(2 * d, 2 * d - bits)) if 2 * d > bits else -33


def plain_bounds(bits, d):
    """by_balls, by_cut, by_mean, by_even and least."""
    evened = by_mean(bits + 1, d + 1) if d % 2 else by_mean(bits, d)
    told = [by_balls(bits, d), 2 ** (bits - d + 1), by_mean(bits, d), evened]
    return told + [min(bound for bound in told if bound > 0)]


def solved(lines):
    """The one solution of as many equations as unknowns, each line [factors .., what they come to], or None."""
    lines = [[Fraction(number) for number in line] for line in lines]
    size = len(lines)
    for column in range(size):
        found = [place for place in range(column, size) if lines[place][column] != 0]
        if not found:
            return None
        lines[column], lines[found[0]] = lines[found[0]], lines[column]
        lines[column] = [number / lines[column][column] for number in lines[column]]
        for place in range(size):
            if place != column:
                times = lines[place][column]
                lines[place] = [number - times * other for number, other in zip(lines[place], lines[column])]
    return [line[-1] for line in lines]


def corners(rows):
    """Each corner of what keeps to the rows: some unknowns are 0, and as many rows as there are others come to 0.

    A row is [number, factors ..]; kept to it is if both together aren't below 0. No unknown is below 0. Whatever is
    the least by one unknown after another, or by a sum of them ahead of that, is a corner.
    """
    size = len(rows[0]) - 1
    for many in range(min(size, len(rows)) + 1):
        for free in combinations(range(size), many):
            for tight in combinations(rows, many):
                values = solved([[row[place + 1] for place in free] + [-row[0]] for row in tight])
                if values is None or any(value < 0 for value in values):
                    continue
                point = [Fraction(0)] * size
                for place, value in zip(free, values):
                    point[place] = value
                if all(row[0] + sum(map(mul, row[1:], point)) >= 0 for row in rows):
                    yield point


@lru_cache(maxsize=None)
def best_numbers(bits, d):
    """The best proof's numbers but the first: the least of all corners."""
    rows = [[-1] + [-SIGNS[bits, k, i] for k in range(1, bits + 1)] for i in range(d, bits + 1)]
    return min(corners(rows), key=lambda numbers: (comes_to(bits, [1] + numbers, 0), numbers))


@lru_cache(maxsize=None)
def greatest_numbers(bits, d):
    """The greatest spread's numbers: of all corners those with the most, and of these the least."""
    rows = [[SIGNS[bits, k, 0]] + [SIGNS[bits, k, i] for i in range(d, bits + 1)] for k in range(1, bits + 1)]
    return min(corners(rows), key=lambda numbers: (-sum(numbers), numbers))


def fractions_told(numbers):
    return [part for number in numbers for part in (Fraction(number).numerator, Fraction(number).denominator)]


def best_proof(bits, d):
    numbers = best_numbers(bits, d)
    bound = comes_to(bits, [1] + numbers, 0)
    return [bound.numerator // bound.denominator] + fractions_told([bound] + numbers)


def spread(bits, d):
    numbers = greatest_numbers(bits, d)
    return [bits - d + 1] + fractions_told(numbers + [sum(numbers) + 1])


def fractions_of(numbers):
    """The fractions that are told by so many numbers, two each."""
    return [Fraction(above, below) for above, below in zip(numbers[::2], numbers[1::2], strict=True)]


def distance(one, other):
    return bin(one ^ other).count("1")


def right_words(bits, words):
    return words == sorted(set(words)) and all(word < 2 ** bits for word in words)


def is_apart(words, d):
    return all(distance(one, other) >= d for one, other in combinations(words, 2))


def filled(bits, d, words):
    there = list(words)
    for word in range(2 ** bits):
        if all(distance(word, other) >= d for other in there):
            there.append(word)
    return there


def apart(bits, d, words):
    if not right_words(bits, words):
        return [-22]
    return [int(is_apart(words, d))]


def more(bits, d, words):
    if not right_words(bits, words):
        return [-22]
    far = [word for word in range(2 ** bits) if all(distance(word, other) >= d for other in words)]
    return [len(far)] + far


def fill(bits, d, words):
    if not right_words(bits, words):
        return [-22]
    if not is_apart(words, d):
        return [-33]
    there = filled(bits, d, words)
    return [len(there)] + there


def held(bits, words):
    if not right_words(bits, words):
        return [-22]
    if not words:
        return [-6]
    counts = [sum(1 for one in words for other in words if distance(one, other) == i) for i in range(bits + 1)]
    return [bits + 1] + fractions_told([Fraction(count, len(words)) for count in counts])


PLAIN = ("by_balls", "by_cut", "by_mean", "by_even", "least")


def looked(bits, d, name, given):
    """What each call but begin and goal must be answered behind a begin, worked out beside the program."""
    if name in PLAIN:
        return [plain_bounds(bits, d)[PLAIN.index(name)]]
    if name in ("proves", "apart", "more", "fill"):
        return {"proves": proves, "apart": apart, "more": more, "fill": fill}[name](bits, d, *given)
    return {
        "at": lambda: at(bits, *given),
        "best_proof": lambda: best_proof(bits, d),
        "spread": lambda: spread(bits, d),
        "taken": lambda: fill(bits, d, []),
        "held": lambda: held(bits, *given),
        "told": lambda: [bits, d],
    }[name]()
