"""Tables: by each sign a way from place to place, and how far one must look to tell the signs."""

from grooveway.least import longest


class Table:
    def __init__(self, lead, first, ahead, homes, ways):
        self.lead = lead
        self.first = first
        self.ahead = ahead
        self.homes = tuple(homes)
        self.ways = tuple([tuple([tuple(way) for way in own]) for own in ways])

    def signs(self):
        return len(self.ways[0])

    def block_length(self):
        return len(self.ways[0][0][0])


# For each home and block the ways from places of that home that spell it, as pairs of sign and place.
def ways_by_block(homes, ways):
    found = {}
    for home, own in zip(homes, ways):
        for sign, way in enumerate(own):
            ends = found.setdefault((home, way[0]), {})
            ends[(sign, way[1])] = True
    return [list(ends) for ends in found.values()]


# The pairs of places, each with its lesser one ahead, to which ways of unlike signs lead that spell one block.
def first_pairs(homes, ways):
    pairs = {}
    for ends in ways_by_block(homes, ways):
        for sign, place in ends:
            for other in ends:
                if sign < other[0]:
                    pairs[(min(place, other[1]), max(place, other[1]))] = True
    return list(pairs)


def places_by_block(own):
    found = {}
    for block, place in own:
        found.setdefault(block, []).append(place)
    return found


def look_of(homes, ways):
    by_block = [places_by_block(own) for own in ways]

    def followers(pair):
        pairs = {}
        for block, places in by_block[pair[0]].items():
            for one in places:
                for other in by_block[pair[1]].get(block, []):
                    pairs[(min(one, other), max(one, other))] = True
        return list(pairs)

    # Two rows of so many ways lead over as many pairs: the longest have as many ways as the look tells.
    return longest(first_pairs(homes, ways), followers)


def table_of(web, n, lead, home):
    ways = [own[:n] for own in web.ways]
    return Table(lead, web.homes.index(home), look_of(web.homes, ways), web.homes, ways)
