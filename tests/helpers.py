"""What several tests share: rows, rooms to try things on, and plain ways of telling what the document says."""

import itertools
import random

from grooveway.errors import Nothing
from grooveway.rooms import Rooms, living, rooms_of
from grooveway.rules import All, Alike, Gap, Never, Rule, Sum, Turn

# Rooms 1 and 2 are alike; room 3 can't be come to over living ones; room 4 dies at once, room 5 one mark later.
MIXED = Rooms("ab", [[1, 2], [0, 5], [0, 4], [0, 3], [None, None], [4, None]])


def rows_of_length(marks, length):
    """All rows of that length, in order."""
    return ["".join(signs) for signs in itertools.product(marks, repeat=length)]


def rows_up_to(marks, length):
    return [row for size in range(length + 1) for row in rows_of_length(marks, size)]


def rules_of_every_kind():
    return [
        Rule("ab"),
        Gap("ab", "b", 1, 3),
        Gap("ba", "a", 2),
        Never("ab", "aab"),
        Never("abc", "abab"),
        Sum("ab", (1, -1), -2, 1),
        Sum("cab", (2, -1, 0), -3, 3),
        Turn("ab", "b", 3, 1),
        Turn("01", "0", 2, 0),
        Alike("ab", 2),
        Alike("zay", 1),
        Alike("a0z9", 3),
        All("ab", []),
        All("ab", [Rule("ab"), Never("ab", "bb")]),
        All("01", [Gap("01", "1", 1, 3), Alike("01", 2)]),
        All("10", [Gap("10", "1", 1), Turn("10", "1", 2, 0), Alike("10", 4)]),
        All("ab", [Sum("ab", (1, -1), -1, 1), Never("ab", "abab"), Alike("ab", 3)]),
    ]


def random_rooms(source, marks, many):
    """Living rooms, of at most so many; None where none come of it."""
    choices = list(range(many)) + [None] * (many // 2)
    ways = [[source.choice(choices) for mark in marks] for room in range(many)]
    try:
        return living(Rooms(marks, ways))
    except Nothing:
        return None


def living_rooms():
    """Living rooms of many kinds: of rules, and some made at random, always the same ones."""
    found = [living(rooms_of(rule)) for rule in rules_of_every_kind()]
    source = random.Random(7)
    for marks in ("ab", "ba", "c0a", "01ab"):
        for many in (1, 2, 3, 4, 5, 6, 7):
            rooms = random_rooms(source, marks, many)
            if rooms is not None:
                found.append(rooms)
    return found


def walk(rooms, room, row):
    """Where a row leads, told from the ways alone."""
    for mark in row:
        room = rooms.ways[room][rooms.marks.index(mark)]
        if room is None:
            return None
    return room


def can_walk(rooms, room, row):
    return walk(rooms, room, row) is not None


def lists_in(told):
    """All lists and dicts within what is told, by their identities."""
    found = [id(told)] if isinstance(told, (list, dict)) else []
    if isinstance(told, dict):
        told = list(told.values())
    if isinstance(told, (list, tuple)):
        for each in told:
            found.extend(lists_in(each))
    return found


def plain(told):
    """True where there is nothing in it but plain whole numbers, texts, None, lists and tuples."""
    if isinstance(told, (list, tuple)):
        return type(told) in (list, tuple) and all(plain(each) for each in told)
    return type(told) in (int, str, type(None))
