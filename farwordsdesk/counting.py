"""Counting that the bounds share: sets, signs and fractions."""


def power_of_two(exponent):
    power = 1
    for step in range(exponent):
        power = power * 2
    return power


# Each step divides without a rest: what stands there then is itself a count of sets.
def choose(total, size):
    sets = 1
    for step in range(size):
        sets = sets * (total - step) // (step + 1)
    return sets


# The sets of k are counted by how many of the i told bits they hold: only that settles their sign.
def sign_sum(bits, k, i):
    together = 0
    for inside in range(k + 1):
        sets = choose(i, inside) * choose(bits - i, k - inside)
        if inside % 2 == 0:
            together = together + sets
        else:
            together = together - sets
    return together


def comes_to(bits, numbers, i):
    together = 0
    for k in range(bits + 1):
        together = together + numbers[k] * sign_sum(bits, k, i)
    return together


def common_part(first, second):
    larger = first
    smaller = second
    while smaller > 0:
        rest = larger % smaller
        larger = smaller
        smaller = rest
    return larger


# Below is 1 or more, so that the common part is never 0, and a fraction of 0 is told as 0, 1.
def lowest_terms(above, below):
    common = common_part(above, below)
    return [above // common, below // common]


def told_fractions(aboves, below):
    told = []
    for above in aboves:
        told.extend(lowest_terms(above, below))
    return told
