"""Parts of rooms that are tied with one another, and the way to a part."""


# Where ways among these rooms lead from one of them, itself too.
def reached_from(table, among, room):
    reached = {room: True}
    waiting = [room]
    while len(waiting) > 0:
        numbers = table[waiting.pop()]
        for to in among:
            if numbers[to] > 0 and to not in reached:
                reached[to] = True
                waiting.append(to)
    return reached


def tied_parts(table, among):
    reached = {}
    for room in among:
        reached[room] = reached_from(table, among, room)
    parts = []
    placed = {}
    for room in among:
        if room not in placed:
            part = [other for other in among if other in reached[room] and room in reached[other]]
            parts.append(part)
            for other in part:
                placed[other] = True
    return parts


def is_closed(table, among, part):
    outside = [room for room in among if room not in part]
    return all([sum([table[room][to] for to in outside]) == 0 for room in part])


def closed_part(table, weights):
    among = [room for room, weight in enumerate(weights) if weight > 0]
    return [part for part in tied_parts(table, among) if is_closed(table, among, part)][0]


def lead_to(rooms, part):
    rows = {0: ""}
    order = [0]
    place = 0
    # Rooms come by the length of their rows and then in order, so the first one found is the one to tell.
    while order[place] not in part:
        room = order[place]
        for mark in rooms.marks:
            to = rooms.led(room, mark)
            if to is not None and to not in rows:
                rows[to] = rows[room] + mark
                order.append(to)
        place = place + 1
    return (rows[order[place]], order[place])
