"""Rooms: what can be walked under a rule, told by ways from room to room."""

from grooveway.errors import BadMark, Nothing, TooLarge
from grooveway.rules import is_mark


class Rooms:
    def __init__(self, marks, ways):
        self.marks = marks
        self.ways = tuple([tuple(own) for own in ways])

    def many(self):
        return len(self.ways)

    def led(self, room, mark):
        if not is_mark(self.marks, mark):
            raise BadMark(f"{mark!r} is no mark")
        return self.ways[room][self.marks.index(mark)]

    def walked(self, room, row):
        for mark in row:
            room = self.led(room, mark)
            if room is None:
                return None
        return room


# Rooms are numbered in one way wherever they come from: leads(state) tells for each mark, in order,
# a state or None, and the ways told are those of all that can be come to from the beginning.
def numbered(begin, leads, most):
    numbers = {begin: 0}
    order = [begin]
    ways = []
    while len(ways) < len(order):
        own = []
        for state in leads(order[len(ways)]):
            if state is not None and state not in numbers:
                numbers[state] = len(order)
                order.append(state)
            own.append(None if state is None else numbers[state])
        # Asked room by room: the states of a rule need not come to an end soon.
        if len(order) > most:
            raise TooLarge("there are more rooms than asked for")
        ways.append(tuple(own))
    return ways


def rooms_of(rule, most=60):
    def leads(state):
        return [rule.step(state, mark) for mark in rule.marks]

    return Rooms(rule.marks, numbered(rule.begin(), leads, most))


# A room whose ways all end at some length has none to a room that goes on: such rooms are struck out
# until there are no more of them.
def those_that_live(rooms):
    lives = [True] * rooms.many()
    struck = True
    while struck:
        still = [any([to is not None and lives[to] for to in own]) for own in rooms.ways]
        struck = still != lives
        lives = still
    return lives


def living(rooms):
    lives = those_that_live(rooms)
    if not lives[0]:
        raise Nothing("no rows of any length can be walked from room 0")

    def leads(room):
        return [to if to is not None and lives[to] else None for to in rooms.ways[room]]

    return Rooms(rooms.marks, numbered(0, leads, rooms.many()))
