"""Weights that bear a wish, and the numbers which show that none do."""

from grooveway.solve import common_divisor, solved


# For each column a row: n times its own number, less the column's numbers times those of their rows.
def press_sides(table, n):
    sides = []
    for column in range(len(table)):
        side = [-numbers[column] for numbers in table]
        side[column] = side[column] + n
        sides.append(side)
    return sides


def press(table, n):
    found = solved(press_sides(table, n), [1] * len(table))
    if found is None or min([part[0] for part in found]) <= 0:
        return None
    # The number that all columns share: the least one that makes all fractions whole.
    shared = 1
    for part in found:
        shared = shared * part[1] // common_divisor(shared, part[1])
    return [part[0] * (shared // part[1]) for part in found]


# As many unknowns are taken away as there are rows, each by the front of the first row left. There is a press
# just where all these fronts are above nought: that is told far sooner than the press itself.
def has_press(table, n):
    rows = press_sides(table, n)
    last = 1
    while len(rows) > 0:
        top = rows[0]
        if top[0] <= 0:
            return False
        fewer = []
        for row in rows[1:]:
            pairs = list(zip(row, top))
            fewer.append([(top[0] * own - row[0] * other) // last for own, other in pairs[1:]])
        rows = fewer
        last = top[0]
    return True


def most_signs(table):
    # There is a press for each n above the greatest sum of a row, and for each n above one that has a press.
    low = 0
    high = max([sum(numbers) for numbers in table])
    while low < high:
        middle = (low + high + 1) // 2
        if has_press(table, middle):
            high = middle - 1
        else:
            low = middle
    return low


def borne(table, weights):
    return [sum([number * weight for number, weight in zip(numbers, weights)]) for numbers in table]


def bears(table, n, weights):
    return all([total >= n * weight for total, weight in zip(borne(table, weights), weights)])


def shrunk(table, n, weights):
    return [min(weight, total // n) for total, weight in zip(borne(table, weights), weights)]


def rounds(table, n, weights):
    told = [list(weights)]
    after = shrunk(table, n, weights)
    while after != told[-1]:
        told.append(after)
        after = shrunk(table, n, after)
    return told


# 1, 2, 4, 8 and so on, up to the most.
def beginnings(most):
    told = [1]
    while told[-1] * 2 <= most:
        told.append(told[-1] * 2)
    return told


def verdict(table, n, most=16):
    pressed = press(table, n)
    if pressed is not None:
        return ("press", pressed)
    told = []
    for weight in beginnings(most):
        told = rounds(table, n, [weight] * len(table))
        if max(told[-1]) > 0:
            return ("weights", told[-1])
    return ("close", told)
