"""Splitting a web until all its weights are alike."""

from grooveway.web import Web


def all_alike(web):
    return min(web.weights) == max(web.weights)


# The number of the first way of the place that leads to a lesser weight, or None.
def lesser_way(web, place):
    for number, way in enumerate(web.ways[place]):
        if web.weights[way[1]] < web.weights[place]:
            return number
    return None


# Of any n whole numbers some that stand side by side sum up to n times a whole number: the sums of the first
# of them, none taken too, are one more than there are rests. Told is where these begin and where they end.
def even_piece(numbers, n):
    ends = {0: 0}
    total = 0
    for place, number in enumerate(numbers, start=1):
        total = total + number
        if total % n in ends:
            return (ends[total % n], place)
        ends[total % n] = place
    return (0, 0)


def choice(web, n):
    if all_alike(web):
        return None
    heaviest = max(web.weights)
    heavy = [place for place in range(web.many()) if web.weights[place] == heaviest]
    place = [each for each in heavy if lesser_way(web, each) is not None][0]
    # n ways with a lesser one among them: what they sum up to is below n times the weight, and as the place
    # bears the wish it has more ways than these.
    lesser = lesser_way(web, place)
    others = [number for number in range(len(web.ways[place])) if number != lesser]
    numbers = sorted(others[:n - 1] + [lesser])
    piece = even_piece([web.weights[web.ways[place][number][1]] for number in numbers], n)
    return (place, numbers[piece[0]:piece[1]])


# Each way to the place stands twice: to the place, and right behind it to the new one.
def doubled(ways, place, new):
    if place not in [way[1] for way in ways]:
        return ways
    told = []
    for way in ways:
        told.append(way)
        if way[1] == place:
            told.append((way[0], new))
    return tuple(told)


def split(web, n, place, picks):
    own = web.ways[place]
    picked = [way for number, way in enumerate(own) if number in picks]
    others = [way for number, way in enumerate(own) if number not in picks]
    share = sum([web.weights[way[1]] for way in picked]) // n
    new = web.many()
    ways = list(web.ways) + [others]
    ways[place] = picked
    weights = list(web.weights) + [web.weights[place] - share]
    weights[place] = share
    homes = list(web.homes) + [web.homes[place]]
    return Web(homes, weights, [doubled(each, place, new) for each in ways])


def evened(web):
    return Web(web.homes, [1] * web.many(), web.ways)


def finished(web, n):
    webs = [web]
    chosen = choice(web, n)
    while chosen is not None:
        webs.append(split(webs[-1], n, chosen[0], chosen[1]))
        chosen = choice(webs[-1], n)
    if webs[-1].weights[0] > 1:
        webs.append(evened(webs[-1]))
    return webs
