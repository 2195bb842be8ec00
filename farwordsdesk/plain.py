"""The bounds that are told plainly. A bound that there isn't is None."""

from farwordsdesk.counting import choose, power_of_two


def by_balls(bits, distance):
    radius = (distance - 1) // 2
    ball = 0
    for weight in range(radius + 1):
        ball = ball + choose(bits, weight)
    return power_of_two(bits) // ball


def by_cut(bits, distance):
    return power_of_two(bits - distance + 1)


def by_mean(bits, distance):
    twice = 2 * distance
    if twice <= bits:
        return None
    return twice // (twice - bits)


# One bit more can make every weight even, which lifts an odd distance by one.
def by_even(bits, distance):
    if distance % 2 == 1:
        return by_mean(bits + 1, distance + 1)
    return by_mean(bits, distance)


def least_bound(bits, distance):
    bounds = [
        by_balls(bits, distance),
        by_cut(bits, distance),
        by_mean(bits, distance),
        by_even(bits, distance),
    ]
    return min([bound for bound in bounds if bound is not None])
