import random
import unittest

from grooveway.least import least, memory, parting
from grooveway.rooms import Rooms, living, rooms_of
from grooveway.rules import All, Alike, Gap, Never, Rule, Sum
from helpers import MIXED, can_walk, living_rooms, plain, random_rooms, rows_of_length, rows_up_to, walk


def rows_walked(rooms, room, length):
    return [row for row in rows_up_to(rooms.marks, length) if can_walk(rooms, room, row)]


def parting_row(rooms, one, other, length):
    """The first row, by its length and then in order, that can be walked from just one of the two."""
    for row in rows_up_to(rooms.marks, length):
        if can_walk(rooms, one, row) != can_walk(rooms, other, row):
            return row
    return None


def marks_remembered(rooms, length):
    """The least m up to the length for which each row of m marks leads all rooms to one."""
    for m in range(length + 1):
        ends = [{walk(rooms, room, row) for room in range(len(rooms.ways))} - {None}
                for row in rows_of_length(rooms.marks, m)]
        if all(len(each) <= 1 for each in ends):
            return m
    return None


def small_rooms():
    return [rooms for rooms in living_rooms() if rooms.many() <= 6 and len(rooms.marks) <= 3]


class LeastTest(unittest.TestCase):
    def test_a_room_told_twice_over(self):
        self.assertEqual(least(living(MIXED)).ways, ((1, 1), (0, None)))
        twice = Rooms("ab", [[1, 2], [3, 0], [3, 0], [3, None]])
        self.assertEqual(least(twice).ways, ((1, 1), (2, 0), (2, None)))

    def test_all_rooms_alike(self):
        self.assertEqual(least(Rooms("ab", [[1, 2], [2, 0], [0, 1]])).ways, ((0, 0),))
        self.assertEqual(least(Rooms("ab", [[1, None], [2, None], [0, None]])).ways, ((0, None),))

    def test_rooms_that_are_least_already(self):
        rooms = rooms_of(Gap("ab", "b", 1, 2))
        self.assertEqual(least(rooms).ways, rooms.ways)
        self.assertEqual(least(Rooms("abc", [[0, 0, None]])).ways, ((0, 0, None),))

    def test_numbers_as_they_are_found(self):
        rooms = Rooms("ab", [[2, 1], [None, 3], [3, 2], [0, 0]])
        self.assertEqual(least(rooms).ways, ((1, 2), (3, 1), (None, 3), (0, 0)))

    def test_rooms_that_differ_only_after_many_marks(self):
        long = Rooms("ab", [[place + 1, place + 1] for place in range(11)] + [[0, None]])
        self.assertEqual(least(long).ways, long.ways)

    def test_made_least_twice(self):
        for rooms in living_rooms():
            once = least(rooms)
            self.assertEqual(least(once).ways, once.ways)
            self.assertEqual(once.marks, rooms.marks)
            self.assertTrue(plain(once.ways))

    def test_the_same_rows_and_no_two_rooms_alike(self):
        for rooms in small_rooms():
            few = least(rooms)
            # Rows as long as there are rooms part any two that can be parted.
            self.assertEqual(rows_walked(few, 0, 6), rows_walked(rooms, 0, 6))
            told = [rows_walked(few, room, 6) for room in range(few.many())]
            self.assertEqual(len({tuple(rows) for rows in told}), few.many())
            kinds = {tuple(rows_walked(rooms, room, 6)) for room in range(rooms.many())}
            self.assertEqual(few.many(), len(kinds))
            self.assertEqual(living(few).ways, few.ways)

    def test_rooms_handed_in_stay(self):
        rooms = living(MIXED)
        least(rooms)
        self.assertEqual(rooms.ways, ((1, 2), (0, None), (0, None)))


class PartingTest(unittest.TestCase):
    def test_both_ways_round(self):
        rooms = Rooms("ab", [[1, 0], [2, 0], [2, None]])
        for one, other, row in ((0, 2, "b"), (1, 2, "b"), (0, 1, "ab")):
            self.assertEqual(parting(rooms, one, other), row)
            self.assertEqual(parting(rooms, other, one), row)

    def test_the_shortest_row_and_of_these_the_first_in_order(self):
        rooms = Rooms("ba", [[2, 3], [4, 5], [2, None], [None, 3], [2, 2], [3, 3]])
        self.assertEqual(parting(rooms, 0, 1), "ba")
        self.assertEqual(parting(Rooms("ab", [[3, 2], [5, 4], [2, None], [None, 3], [2, 2], [3, 3]]), 0, 1), "aa")
        # All marks part these two: the first one by the marks' order is told.
        self.assertEqual(parting(Rooms("zax", [[0, None, 1], [None, 0, 1]]), 0, 1), "z")
        self.assertEqual(parting(Rooms("zax", [[0, 1, None], [0, None, 1]]), 0, 1), "a")

    def test_rooms_that_are_alike_and_a_room_and_itself(self):
        rooms = living(MIXED)
        self.assertIsNone(parting(rooms, 1, 2))
        self.assertIsNone(parting(rooms, 2, 1))
        self.assertEqual([parting(rooms, room, room) for room in (0, 1, 2)], [None] * 3)
        self.assertEqual(parting(rooms, 0, 1), "b")

    def test_a_long_row(self):
        rooms = Rooms("ab", [[place + 1, place + 1] for place in range(40)] + [[0, None]])
        self.assertEqual(parting(rooms, 0, 1), "a" * 39 + "b")

    def test_held_against_rows_one_by_one(self):
        for rooms in small_rooms():
            for one in range(rooms.many()):
                for other in range(rooms.many()):
                    self.assertEqual(parting(rooms, one, other), parting_row(rooms, one, other, 6))


class MemoryTest(unittest.TestCase):
    def test_one_room_alone(self):
        self.assertEqual(memory(Rooms("ab", [[0, 0]])), 0)
        self.assertEqual(memory(Rooms("ab", [[0, None]])), 0)
        self.assertEqual(memory(rooms_of(Rule("abc"))), 0)

    def test_rooms_that_know_the_last_mark(self):
        self.assertEqual(memory(Rooms("ab", [[0, 1], [0, None]])), 1)
        self.assertEqual(memory(Rooms("ab", [[0, 1], [0, 1]])), 1)

    def test_rooms_that_know_more_marks(self):
        self.assertEqual(memory(least(living(rooms_of(Alike("ab", 2))))), 2)
        self.assertEqual(memory(least(living(rooms_of(Never("ab", "aab"))))), 2)
        self.assertEqual(memory(least(living(rooms_of(Gap("ab", "b", 2))))), 2)

    def test_rooms_without_a_memory(self):
        self.assertIsNone(memory(Rooms("ab", [[1, 1], [0, 0]])))
        self.assertIsNone(memory(Rooms("ab", [[0, 1], [1, 0]])))
        self.assertIsNone(memory(rooms_of(Sum("ab", (1, -1), -1, 1))))
        self.assertIsNone(memory(living(MIXED)))

    def test_rooms_that_are_alike_are_still_two(self):
        self.assertIsNone(memory(Rooms("ab", [[1, None], [0, None]])))
        self.assertEqual(memory(least(Rooms("ab", [[1, None], [0, None]]))), 0)

    def test_held_against_rows_one_by_one(self):
        # No more pairs of unlike rooms than fifteen: beyond as many marks nothing new comes.
        source = random.Random(3)
        many = [rooms for rooms in small_rooms() if len(rooms.marks) == 2 and rooms.many() <= 4]
        while len(many) < 60:
            rooms = random_rooms(source, "ba", 4)
            if rooms is not None:
                many.append(rooms)
        found = [memory(rooms) for rooms in many]
        self.assertEqual(found, [marks_remembered(rooms, 7) for rooms in many])
        self.assertTrue({0, 1, 2, None} <= set(found))

    def test_a_memory_that_is_long(self):
        rooms = least(living(rooms_of(All("ab", [Never("ab", "aaaaab"), Alike("ab", 6)]))))
        self.assertEqual(memory(rooms), marks_remembered(rooms, 8))
        self.assertEqual(memory(least(living(rooms_of(Gap("ab", "b", 8))))), 8)


if __name__ == "__main__":
    unittest.main()
