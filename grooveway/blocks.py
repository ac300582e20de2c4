"""Blocks: rows of a given length, and how many of them lead from room to room."""


def blocks_from(rooms, room, q):
    blocks = [("", room)]
    for place in range(q):
        longer = []
        for block, end in blocks:
            for mark in rooms.marks:
                to = rooms.led(end, mark)
                if to is not None:
                    longer.append((block + mark, to))
        blocks = longer
    return blocks


def block_table(rooms, q):
    table = []
    for room in range(rooms.many()):
        numbers = [0] * rooms.many()
        for block, to in blocks_from(rooms, room, q):
            numbers[to] = numbers[to] + 1
        table.append(numbers)
    return table
