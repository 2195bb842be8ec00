"""Taking the one list of whole numbers apart into calls."""

# By the call's number, from begin on to told: how many whole numbers it has, and how many rows.
WHOLES = (2, 1, 0, 0, 0, 0, 0, 0, 1, 0, 0, 0, 0, 0, 0, 0, 0)
ROWS = (0, 0, 0, 0, 0, 0, 0, 1, 1, 0, 0, 0, 1, 1, 1, 1, 0)


# Each call is given as (its number, its whole numbers, its row); a call without a row has an empty one.
def split_calls(calls):
    split = []
    place = 0
    while place < len(calls):
        call = calls[place]
        behind = place + 1 + WHOLES[call]
        wholes = calls[place + 1:behind]
        row = []
        place = behind
        if ROWS[call] == 1:
            place = behind + 1 + calls[behind]
            row = calls[behind + 1:place]
        split.append((call, wholes, row))
    return split
