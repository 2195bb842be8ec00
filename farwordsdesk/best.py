"""The best proof, and the greatest spread, which shows why none is better: each the least point of some rows."""

from farwordsdesk.counting import power_of_two, sign_sum
from farwordsdesk.solving import least_point


# The first unknown is what the proof comes to at 0; the others are its numbers but the first, which is 1.
def best_proof_point(bits, distance):
    rows = [[-1, 1] + [-sign_sum(bits, k, 0) for k in range(1, bits + 1)]]
    for i in range(distance, bits + 1):
        rows.append([-1, 0] + [-sign_sum(bits, k, i) for k in range(1, bits + 1)])
    return least_point(rows)


# The first unknown is how many a spread, and 1, lacks of all words there are, so that the greatest lacks the least.
# No spread has more than all: the sign sums of all k come to 0 at each distance but 0, and to all words there.
def greatest_spread_point(bits, distance):
    rows = [[1 - power_of_two(bits), 1] + [1 for i in range(distance, bits + 1)]]
    for k in range(1, bits + 1):
        signs = [sign_sum(bits, k, i) for i in range(distance, bits + 1)]
        rows.append([sign_sum(bits, k, 0), 0] + signs)
    return least_point(rows)
