"""Webs: places with a home, a weight and ways, made of a part of rooms."""

from grooveway.blocks import blocks_from


# A row of ways that is a tuple of pairs already stays the very one: webs that come one of the other share
# most of their ways.
def kept_ways(ways):
    if isinstance(ways, tuple) and all([isinstance(way, tuple) for way in ways]):
        return ways
    return tuple([tuple(way) for way in ways])


class Web:
    def __init__(self, homes, weights, ways):
        self.homes = tuple(homes)
        self.weights = tuple(weights)
        self.ways = tuple([kept_ways(own) for own in ways])

    def many(self):
        return len(self.homes)


def web_of(rooms, q, weights, part):
    places = {}
    for place, room in enumerate(part):
        places[room] = place
    ways = []
    for room in part:
        ways.append([(block, places[to]) for block, to in blocks_from(rooms, room, q) if to in places])
    return Web(part, [weights[room] for room in part], ways)


# For each place the sum of the weights to which its ways lead.
def weights_behind(web):
    return [sum([web.weights[way[1]] for way in own]) for own in web.ways]


def web_bears(web, n):
    return all([total >= n * weight for total, weight in zip(weights_behind(web), web.weights)])
