"""Rows of numbers that may prove a bound."""

from farwordsdesk.counting import comes_to

LARGEST_NUMBER = 1000


def is_right_row(bits, numbers):
    if len(numbers) != bits + 1:
        return False
    for number in numbers:
        if number > LARGEST_NUMBER:
            return False
    return True


# That no number is below 0 isn't asked here: none that is handed in can be.
def is_proof(bits, distance, numbers):
    if numbers[0] < 1:
        return False
    for i in range(distance, bits + 1):
        if comes_to(bits, numbers, i) > 0:
            return False
    return True
