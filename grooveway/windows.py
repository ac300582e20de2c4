"""Rows read by windows: each sign from a few marks around its block, wherever the row was spoilt."""

from grooveway.errors import BadMark
from grooveway.least import memory
from grooveway.rules import is_mark
from grooveway.writing import blocks_behind, signs_spelled


# The rooms to which the last marks lead: from room 0 where these are all marks there are, else from any.
def rooms_behind(rooms, remembered, past):
    begins = [0] if len(past) < remembered else list(range(rooms.many()))
    ends = [rooms.walked(room, past) for room in begins]
    return [room for room in range(rooms.many()) if room in ends]


def sign_told(rooms, table, remembered, past, blocks):
    homes = rooms_behind(rooms, remembered, past)
    places = [place for place, home in enumerate(table.homes) if home in homes]
    spelled = signs_spelled(table, places, blocks)
    return spelled[0] if len(spelled) == 1 else 0


def sign_at(rooms, table, past, blocks):
    return sign_told(rooms, table, memory(rooms), past, blocks)


def read_windows(rooms, table, row):
    if not all([is_mark(rooms.marks, sign) for sign in row]):
        raise BadMark("the row has a sign that is no mark")
    blocks = blocks_behind(table, row)
    remembered = memory(rooms)
    signs = []
    for number in range(len(blocks) - table.ahead):
        begin = len(table.lead) + number * table.block_length()
        past = row[max(0, begin - remembered):begin]
        signs.append(sign_told(rooms, table, remembered, past, blocks[number:number + table.ahead + 1]))
    return signs
