"""The judge: what is wrong with a table, whoever made it."""

from grooveway.errors import BadMark
from grooveway.table import look_of


# Where a row leads from a home that need not be a room, by signs that need not be marks; None where to nowhere.
def end_of(rooms, home, row):
    # Asked here: a number below nought would be taken for a room counted from the last one.
    if home < 0 or home >= rooms.many():
        return None
    try:
        return rooms.walked(home, row)
    except BadMark:
        return None


def leads_home(rooms, home, row, to):
    end = end_of(rooms, home, row)
    return end is not None and end == to


def faulty_ways(rooms, table, place):
    faults = []
    for sign, way in enumerate(table.ways[place]):
        if not leads_home(rooms, table.homes[place], way[0], table.homes[way[1]]):
            faults.append(("way", place, sign))
    return faults


def judged(rooms, table):
    faults = []
    if not leads_home(rooms, 0, table.lead, table.homes[table.first]):
        faults.append(("lead",))
    for place in range(len(table.homes)):
        faults.extend(faulty_ways(rooms, table, place))
    look = look_of(table.homes, table.ways)
    if look is None or look > table.ahead:
        faults.append(("look",))
    return faults
