"""Words, told as numbers, and how far they are from one another."""

from farwordsdesk.counting import power_of_two


def are_right_words(bits, words):
    every = power_of_two(bits)
    least = 0
    for word in words:
        if word < least or word >= every:
            return False
        least = word + 1
    return True


def weight(word):
    ones = 0
    rest = word
    while rest > 0:
        ones = ones + rest % 2
        rest = rest // 2
    return ones


def is_far(word, words, distance):
    for other in words:
        if weight(word ^ other) < distance:
            return False
    return True


def are_apart(words, distance):
    for place, word in enumerate(words):
        if not is_far(word, words[:place], distance):
            return False
    return True


def far_words(bits, words, distance):
    return [word for word in range(power_of_two(bits)) if is_far(word, words, distance)]


# A word that is there already isn't put in again: it's at a distance of 0 from itself, and the goal is 1 or more.
def filled_words(bits, words, distance):
    filled = list(words)
    for word in range(power_of_two(bits)):
        if is_far(word, filled, distance):
            filled.append(word)
    return filled


def count_twos(bits, words):
    twos = [0 for i in range(bits + 1)]
    for word in words:
        for other in words:
            i = weight(word ^ other)
            twos[i] = twos[i] + 1
    return twos
