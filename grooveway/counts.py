"""How many rows can be walked, and which number each of them has."""

from grooveway.errors import NoRow


# For each room the count of the rows that are one mark longer than those counted.
def counts_longer(rooms, counts):
    return [sum([counts[to] for to in own if to is not None]) for own in rooms.ways]


def counts_up_to(rooms, length):
    counts = [[1] * rooms.many()]
    for place in range(length):
        counts.append(counts_longer(rooms, counts[place]))
    return counts


def count(rooms, room, length):
    return counts_up_to(rooms, length)[length][room]


# How many rows from the room begin with a mark that is ahead of this one in order.
def rows_ahead(rooms, room, mark, counts):
    own = rooms.ways[room][:rooms.marks.index(mark)]
    return sum([counts[to] for to in own if to is not None])


# The row of this number begins with the last mark that has no more rows than that ahead of it: a mark that leads
# to no room has as many ahead of it as the next one.
def mark_at(rooms, room, number, counts):
    return [mark for mark in rooms.marks if rows_ahead(rooms, room, mark, counts) <= number][-1]


def row_at(rooms, room, length, number):
    counts = counts_up_to(rooms, length)
    if number < 0 or number >= counts[length][room]:
        raise NoRow("there is no row of that number")
    row = []
    for rest in range(length - 1, -1, -1):
        mark = mark_at(rooms, room, number, counts[rest])
        number = number - rows_ahead(rooms, room, mark, counts[rest])
        room = rooms.led(room, mark)
        row.append(mark)
    return "".join(row)


def number_of(rooms, room, row):
    if rooms.walked(room, row) is None:
        raise NoRow("the row can't be walked")
    counts = counts_up_to(rooms, len(row))
    number = 0
    for place, mark in enumerate(row, start=1):
        number = number + rows_ahead(rooms, room, mark, counts[len(row) - place])
        room = rooms.led(room, mark)
    return number
