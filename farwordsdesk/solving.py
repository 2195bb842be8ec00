"""The least point of all that keep to some rows.

A point has a number for each unknown, none below 0. A row has a number by itself, and one for each unknown: a point
keeps to it if that number, and each other one times its unknown, together aren't below 0. Of two points the lesser is
that with the lesser number where they first differ.

The table tells 1, each unknown, and what each row comes to, out of 1 (the first column) and as many of these as there
are unknowns (a column each), which are all 0 at the point that the table stands for. All its numbers are to be divided
by the very first one. It begins where each unknown is 0, and goes to ever greater points, but never above one that
keeps to all rows; so the first that keeps to all of them is the least.
"""


def first_table(rows):
    size = len(rows[0])
    table = []
    for place in range(size):
        table.append([1 if other == place else 0 for other in range(size)])
    return table + rows


def first_broken(table):
    for row in table:
        if row[0] < 0:
            return row
    return None


# The columns are set against each other as if the broken row had 1 in both.
def is_lesser_column(table, broken, column, other):
    for row in table:
        here = row[column] * broken[other]
        there = row[other] * broken[column]
        if here != there:
            return here < there
    return False


# The least column makes the least step. There is one, as some point keeps to all rows that are handed in here. The
# first column is no unknown's or row's, so that 0 can stand for none yet.
def column_to_change(table, broken):
    chosen = 0
    for column in range(1, len(broken)):
        if broken[column] > 0:
            if chosen == 0 or is_lesser_column(table, broken, column, chosen):
                chosen = column
    return chosen


# There is no rest: each number of the table is a determinant of numbers that were in the first one.
def changed_row(row, broken, column, below):
    changed = []
    for place in range(len(row)):
        if place == column:
            changed.append(row[column])
        else:
            changed.append((row[place] * broken[column] - row[column] * broken[place]) // below)
    return changed


# The point is given as fractions that are all by the same: what's below, then what's above for each unknown.
def least_point(rows):
    table = first_table(rows)
    broken = first_broken(table)
    while broken is not None:
        column = column_to_change(table, broken)
        below = table[0][0]
        table = [changed_row(row, broken, column, below) for row in table]
        broken = first_broken(table)
    return [row[0] for row in table[:len(rows[0])]]
