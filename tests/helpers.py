"""What several tests share: rows, rooms to try things on, and plain ways of telling what the document says."""

import itertools
import random

from grooveway.blocks import block_table
from grooveway.errors import Nothing
from grooveway.least import least
from grooveway.parts import closed_part, lead_to
from grooveway.rooms import Rooms, living, rooms_of
from grooveway.rules import All, Alike, Gap, Never, Rule, Sum, Turn
from grooveway.split import finished
from grooveway.table import table_of
from grooveway.web import Web, web_of
from grooveway.weights import most_signs, verdict

# Rooms 1 and 2 are alike; room 3 can't be come to over living ones; room 4 dies at once, room 5 one mark later.
MIXED = Rooms("ab", [[1, 2], [0, 5], [0, 4], [0, 3], [None, None], [4, None]])


def rows_of_length(marks, length):
    """All rows of that length, in order."""
    return ["".join(signs) for signs in itertools.product(marks, repeat=length)]


def rows_up_to(marks, length):
    return [row for size in range(length + 1) for row in rows_of_length(marks, size)]


def rules_of_every_kind():
    return [
        Rule("ab"),
        Gap("ab", "b", 1, 3),
        Gap("ba", "a", 2),
        Never("ab", "aab"),
        Never("abc", "abab"),
        Sum("ab", (1, -1), -2, 1),
        Sum("cab", (2, -1, 0), -3, 3),
        Turn("ab", "b", 3, 1),
        Turn("01", "0", 2, 0),
        Alike("ab", 2),
        Alike("zay", 1),
        Alike("a0z9", 3),
        All("ab", []),
        All("ab", [Rule("ab"), Never("ab", "bb")]),
        All("01", [Gap("01", "1", 1, 3), Alike("01", 2)]),
        All("10", [Gap("10", "1", 1), Turn("10", "1", 2, 0), Alike("10", 4)]),
        All("ab", [Sum("ab", (1, -1), -1, 1), Never("ab", "abab"), Alike("ab", 3)]),
    ]


def random_rooms(source, marks, many):
    """Living rooms, of at most so many; None where none come of it."""
    choices = list(range(many)) + [None] * (many // 2)
    ways = [[source.choice(choices) for mark in marks] for room in range(many)]
    try:
        return living(Rooms(marks, ways))
    except Nothing:
        return None


def living_rooms():
    """Living rooms of many kinds: of rules, and some made at random, always the same ones."""
    found = [living(rooms_of(rule)) for rule in rules_of_every_kind()]
    source = random.Random(7)
    for marks in ("ab", "ba", "c0a", "01ab"):
        for many in (1, 2, 3, 4, 5, 6, 7):
            rooms = random_rooms(source, marks, many)
            if rooms is not None:
                found.append(rooms)
    return found


def walk(rooms, room, row):
    """Where a row leads, told from the ways alone."""
    for mark in row:
        room = rooms.ways[room][rooms.marks.index(mark)]
        if room is None:
            return None
    return room


def can_walk(rooms, room, row):
    return walk(rooms, room, row) is not None


def lists_in(told):
    """All lists and dicts within what is told, by their identities."""
    found = [id(told)] if isinstance(told, (list, dict)) else []
    if isinstance(told, dict):
        told = list(told.values())
    if isinstance(told, (list, tuple)):
        for each in told:
            found.extend(lists_in(each))
    return found


def plain(told):
    """True where there is nothing in it but plain whole numbers, texts, None, lists and tuples."""
    if isinstance(told, (list, tuple)):
        return type(told) in (list, tuple) and all(plain(each) for each in told)
    return type(told) in (int, str, type(None))


def webs_of_rooms():
    """Lists of rooms, q, n and a web of them that bears n: what answering pages makes of living rooms."""
    found = []
    for rooms in living_rooms():
        rooms = least(rooms)
        for q in (1, 2, 3):
            table = block_table(rooms, q)
            for n in range(1, most_signs(table) + 1):
                kind, weights = verdict(table, n)
                if kind == "weights" and n <= 9:
                    found.append((rooms, q, n, web_of(rooms, q, weights, closed_part(table, weights))))
    return found


def tied(web):
    """Whether rows of ways lead from each place to each, itself too."""
    for place in range(web.many()):
        reached = {way[1] for way in web.ways[place]}
        waiting = list(reached)
        while waiting:
            for way in web.ways[waiting.pop()]:
                if way[1] not in reached:
                    reached.add(way[1])
                    waiting.append(way[1])
        if len(reached) < web.many():
            return False
    return True


def random_webs():
    """Webs that bear a wish and are tied, of no rooms: pairs of n and the web, always the same ones."""
    source = random.Random(21)
    found = []
    while len(found) < 120:
        n = source.randint(1, 5)
        many = source.randint(1, 5)
        weights = [source.randint(1, 7) for place in range(many)]
        blocks = rows_of_length("ab", 3)
        pairs = [(block, place) for block in blocks for place in range(many)]
        ways = [source.sample(pairs, source.randint(1, min(len(pairs), 14))) for place in range(many)]
        web = Web([source.randint(0, 9) for place in range(many)], weights, ways)
        if tied(web) and bears_in_full(web, n):
            found.append((n, web))
    return found


def bears_in_full(web, n):
    return all(sum(web.weights[way[1]] for way in web.ways[place]) >= n * web.weights[place]
               for place in range(len(web.homes)))


def told_web(web):
    return (web.homes, web.weights, web.ways)


def rows_of_ways(ways, place, length):
    """All rows of so many ways from the place: pairs of the signs and the blocks."""
    rows = [((), (), place)]
    for step in range(length):
        rows = [(signs + (sign,), blocks + (block,), to)
                for signs, blocks, at in rows for sign, (block, to) in enumerate(ways[at])]
    return [(signs, blocks) for signs, blocks, at in rows]


def look_by_rows(homes, ways, most):
    """The least look up to the most, found by writing out all rows of ways; None where there is none."""
    for look in range(most + 1):
        spelled = {}
        for place, home in enumerate(homes):
            for signs, blocks in rows_of_ways(ways, place, look + 1):
                spelled.setdefault((home, blocks), set()).add(signs[0])
        if all(len(signs) == 1 for signs in spelled.values()):
            return look
    return None


def random_ways(source, many, signs, blocks):
    return [[(source.choice(blocks), source.randrange(many)) for sign in range(signs)] for place in range(many)]


def tables_of_rooms():
    """Pairs of rooms and a table without a fault on them, made as pages are answered."""
    found = []
    for rooms, q, n, web in webs_of_rooms():
        lead = lead_to(rooms, list(web.homes))
        found.append((rooms, table_of(finished(web, n)[-1], n, lead[0], lead[1])))
    return found


def told_table(table):
    return (table.lead, table.first, table.ahead, table.homes, table.ways)
