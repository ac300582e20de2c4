"""Fractions, and tables solved by them."""


def common_divisor(a, b):
    while b != 0:
        rest = a % b
        a = b
        b = rest
    return abs(a)


def reduced(a, b):
    common = common_divisor(a, b)
    if b < 0:
        common = -common
    return (a // common, b // common)


# Puts a row that has no nought in front to this place, and tells whether there is one from the place on.
def brought_up(rows, place):
    for number in range(place, len(rows)):
        if rows[number][0] != 0:
            taken = rows[number]
            rows[number] = rows[place]
            rows[place] = taken
            return True
    return False


# Takes the front numbers away. Whole numbers stay whole: each step can be divided by the front number that
# the step ahead of it took, and so the numbers don't grow without need.
def cleared(rows, place, divided_by):
    taken = rows[place]
    fewer = []
    for number, row in enumerate(rows):
        if number == place:
            fewer.append(row[1:])
        else:
            pairs = list(zip(row, taken))
            fewer.append([(taken[0] * own - row[0] * other) // divided_by for own, other in pairs[1:]])
    return fewer


def solved(table, right):
    rows = [list(numbers) + [end] for numbers, end in zip(table, right)]
    last = 1
    for place in range(len(rows)):
        if not brought_up(rows, place):
            return None
        front = rows[place][0]
        rows = cleared(rows, place, last)
        last = front
    return [reduced(row[0], last) for row in rows]
