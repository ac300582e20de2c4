"""Fractions, and tables solved by them."""


def common_divisor(a, b):
    while b != 0:
        rest = a % b
        a = b
        b = rest
    return abs(a)


def reduced(a, b):
    common = common_divisor(a, b)
    if b < 0:
        common = -common
    return (a // common, b // common)


# The number of the first row from the place on that has no nought in front, or None.
def row_to_take(rows, place):
    fit = [number for number in range(place, len(rows)) if rows[number][0] != 0]
    return fit[0] if len(fit) > 0 else None


def exchanged(rows, one, other):
    told = list(rows)
    told[one] = rows[other]
    told[other] = rows[one]
    return told


# Takes the front numbers away. Whole numbers stay whole: each step can be divided by the front number that
# the step ahead of it took, and so the numbers don't grow without need.
def cleared(rows, place, divided_by):
    taken = rows[place]
    fewer = []
    for number, row in enumerate(rows):
        if number == place:
            fewer.append(row[1:])
        else:
            pairs = list(zip(row, taken))
            fewer.append([(taken[0] * own - row[0] * other) // divided_by for own, other in pairs[1:]])
    return fewer


def solved(table, right):
    rows = [list(numbers) + [end] for numbers, end in zip(table, right)]
    last = 1
    for place in range(len(table)):
        number = row_to_take(rows, place)
        if number is None:
            return None
        front = rows[number][0]
        rows = cleared(exchanged(rows, number, place), place, last)
        last = front
    return [reduced(row[0], last) for row in rows]
