"""Least rooms, the rows that part rooms, and how many marks rooms remember."""

from grooveway.rooms import Rooms, numbered


# Rooms of one kind stay so where each mark leads them to one kind, or to none.
def kinds_behind(rooms, kinds):
    numbers = {}
    finer = []
    for room, own in enumerate(rooms.ways):
        ends = [None if to is None else kinds[to] for to in own]
        told = (kinds[room], tuple(ends))
        finer.append(numbers.setdefault(told, len(numbers)))
    return finer


# A number for each room, the same one just for rooms that are alike. The numbers come in the order of
# the rooms each time, so that kinds which are parted no further are told by equal lists.
def kinds_of(rooms):
    kinds = [0] * rooms.many()
    finer = kinds_behind(rooms, kinds)
    while finer != kinds:
        kinds = finer
        finer = kinds_behind(rooms, kinds)
    return kinds


def least(rooms):
    kinds = kinds_of(rooms)

    def leads(kind):
        own = rooms.ways[kinds.index(kind)]
        return [None if to is None else kinds[to] for to in own]

    return Rooms(rooms.marks, numbered(kinds[0], leads, rooms.many()))


def parting(rooms, one, other):
    rows = {(one, other): ""}
    order = [(one, other)]
    place = 0
    # Pairs come by the length of their rows and then in order, so the first row found is the one to tell.
    while place < len(order):
        pair = order[place]
        for mark in rooms.marks:
            to = (rooms.led(pair[0], mark), rooms.led(pair[1], mark))
            row = rows[pair] + mark
            if to.count(None) == 1:
                return row
            if to.count(None) == 0 and to not in rows:
                rows[to] = row
                order.append(to)
        place = place + 1
    return None


def all_followers(begins, followers):
    found = {}
    waiting = list(begins)
    while len(waiting) > 0:
        one = waiting.pop()
        if one not in found:
            found[one] = followers(one)
            waiting.extend(found[one])
    return found


# How many stand one behind the other in the longest row that begins with one of the beginnings, or None
# where rows don't end. From the ends backwards, so that each is looked at once however many rows it is in.
def longest(begins, followers):
    found = all_followers(begins, followers)
    left = {}
    ahead = {}
    for one, behind in found.items():
        left[one] = len(behind)
        for other in behind:
            ahead.setdefault(other, []).append(one)
    last = [one for one in found if left[one] == 0]
    length = 0
    gone = 0
    while len(last) > 0:
        length = length + 1
        gone = gone + len(last)
        earlier = []
        for other in last:
            for one in ahead.get(other, []):
                left[one] = left[one] - 1
                if left[one] == 0:
                    earlier.append(one)
        last = earlier
    return length if gone == len(found) else None


def memory(rooms):
    many = rooms.many()
    pairs = []
    for one in range(many):
        pairs.extend([(one, other) for other in range(one + 1, many)])

    def followers(pair):
        ends = list(zip(rooms.ways[pair[0]], rooms.ways[pair[1]]))
        return [end for end in ends if None not in end and end[0] != end[1]]

    # Rooms remember m marks where no m marks lead on from two unlike rooms to unlike rooms all along.
    return longest(pairs, followers)
