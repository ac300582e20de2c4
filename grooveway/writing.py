"""Signs written by a table as a row of marks, and read back."""

from grooveway.errors import BadSign, Unread


def written(table, signs):
    if not all([0 <= sign < table.signs() for sign in signs]):
        raise BadSign("a sign is from 0 to one below the number of signs")
    row = [table.lead]
    place = table.first
    for sign in list(signs) + [0] * table.ahead:
        way = table.ways[place][sign]
        row.append(way[0])
        place = way[1]
    return "".join(row)


# The blocks of a row behind the lead's length, be the lead what it may.
def blocks_behind(table, row):
    length = table.block_length()
    if len(row) < len(table.lead) or (len(row) - len(table.lead)) % length != 0:
        raise Unread("the row isn't of a lead and whole blocks")
    blocks = [row[place:place + length] for place in range(len(table.lead), len(row), length)]
    if len(blocks) < table.ahead:
        raise Unread("the row has too few blocks")
    return blocks


# The signs, ascending, of the first ways of all rows of ways from these places that spell the blocks.
def signs_spelled(table, places, blocks):
    ends = {}
    for place in places:
        for sign, way in enumerate(table.ways[place]):
            if way[0] == blocks[0]:
                ends[(sign, way[1])] = True
    for block in blocks[1:]:
        further = {}
        for sign, place in ends:
            for way in table.ways[place]:
                if way[0] == block:
                    further[(sign, way[1])] = True
        ends = further
    firsts = [sign for sign, place in ends]
    return [sign for sign in range(table.signs()) if sign in firsts]


def read(table, row):
    if not row.startswith(table.lead):
        raise Unread("the row doesn't begin with the lead")
    blocks = blocks_behind(table, row)
    place = table.first
    signs = []
    for number in range(len(blocks) - table.ahead):
        spelled = signs_spelled(table, [place], blocks[number:number + table.ahead + 1])
        if len(spelled) == 0:
            raise Unread("no row of ways spells the blocks")
        signs.append(spelled[0])
        place = table.ways[place][spelled[0]][1]
    return signs
