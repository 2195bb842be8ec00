"""What the tests share: calls written into one list, answers taken apart, and the document's words counted out.

Nothing here draws on the program but `ask`: sets and words are gone through one by one, so that a slip in the
program's shorter sums shows.
"""

from fractions import Fraction
from itertools import combinations

from farwordsdesk.bounds import answers

LARGEST = 2147483647

NUMBERS = {
    "begin": 0, "goal": 1, "by_balls": 2, "by_cut": 3, "by_mean": 4, "by_even": 5, "least": 6, "proves": 7, "at": 8,
    "best_proof": 9, "spread": 10, "taken": 11, "apart": 12, "more": 13, "fill": 14, "held": 15, "told": 16,
}

GOALS = [(bits, d) for bits in range(1, 7) for d in range(1, bits + 1)]


def written(*calls):
    """The calls, each a name or (name, whole numbers and rows ..), as the one list that is handed in."""
    handed = []
    for call in calls:
        name, *given = (call,) if isinstance(call, str) else call
        handed.append(NUMBERS[name])
        for value in given:
            if isinstance(value, list):
                handed.append(len(value))
                handed.extend(value)
            else:
                handed.append(value)
    return handed


def taken_apart(flat):
    """The answers, one list a call, out of the one list that is given back."""
    apart = []
    place = 0
    while place < len(flat):
        end = place + 1 + flat[place]
        if flat[place] < 1 or end > len(flat):
            raise AssertionError(f"no right count at {place} of {flat}")
        apart.append(flat[place + 1:end])
        place = end
    return apart


def ask(*calls):
    """What each of the calls is answered."""
    return taken_apart(answers(written(*calls)))


def ask_last(*calls):
    """What the last of the calls is answered."""
    return ask(*calls)[-1]


def sign_sum(bits, k, i):
    return sum(1 if sum(1 for bit in chosen if bit < i) % 2 == 0 else -1 for chosen in combinations(range(bits), k))


SIGNS = {
    (bits, k, i): sign_sum(bits, k, i)
    for bits in range(1, 7) for k in range(bits + 1) for i in range(bits + 1)
}


def comes_to(bits, numbers, i):
    return sum(number * SIGNS[bits, k, i] for k, number in enumerate(numbers))


def at(bits, i, numbers):
    if i > bits or len(numbers) != bits + 1 or max(numbers) > 1000:
        return [-22]
    return [0, comes_to(bits, numbers, i)]


def proves(bits, d, numbers):
    if len(numbers) != bits + 1 or max(numbers) > 1000:
        return [-22]
    if numbers[0] == 0 or any(comes_to(bits, numbers, i) > 0 for i in range(d, bits + 1)):
        return [-33]
    bound = Fraction(comes_to(bits, numbers, 0), numbers[0])
    return [bound.numerator // bound.denominator, bound.numerator, bound.denominator]


def by_balls(bits, d):
    return 2 ** bits // sum(1 for word in range(2 ** bits) if bin(word).count("1") <= (d - 1) // 2)


def by_mean(bits, d):
    return int(Fraction(2 * d, 2 * d - bits)) if 2 * d > bits else -33


def plain_bounds(bits, d):
    """by_balls, by_cut, by_mean, by_even and least."""
    evened = by_mean(bits + 1, d + 1) if d % 2 else by_mean(bits, d)
    told = [by_balls(bits, d), 2 ** (bits - d + 1), by_mean(bits, d), evened]
    return told + [min(bound for bound in told if bound > 0)]
