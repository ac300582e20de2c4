import unittest

from grooveway.counts import count, number_of, row_at
from grooveway.errors import BadMark, NoRow
from grooveway.least import least
from grooveway.rooms import Rooms, living, rooms_of
from grooveway.rules import Alike, Gap, Rule
from helpers import can_walk, living_rooms, rows_of_length

# From room 0 go both marks, from room 1 `b` alone; the marks' order isn't that of the letters.
GOLDEN = Rooms("ba", [[0, 1], [0, None]])


class CountTest(unittest.TestCase):
    def test_length_nought(self):
        for rooms in living_rooms():
            self.assertEqual([count(rooms, room, 0) for room in range(rooms.many())], [1] * rooms.many())

    def test_small_lengths_held_against_rows(self):
        for rooms in living_rooms():
            for length in range(5):
                for room in range(rooms.many()):
                    rows = [row for row in rows_of_length(rooms.marks, length) if can_walk(rooms, room, row)]
                    told = count(rooms, room, length)
                    self.assertEqual(told, len(rows))
                    self.assertIs(type(told), int)

    def test_great_lengths(self):
        self.assertEqual(count(rooms_of(Rule("abcd")), 0, 400), 4 ** 400)
        told = [1, 2]
        while len(told) <= 400:
            told.append(told[-2] + told[-1])
        for length in (1, 2, 17, 399, 400):
            self.assertEqual(count(GOLDEN, 0, length), told[length])
            self.assertEqual(count(GOLDEN, 1, length), told[length - 1])


class RowAtTest(unittest.TestCase):
    def test_each_number_of_a_small_length_there_and_back(self):
        for rooms in living_rooms():
            for length in range(6 if len(rooms.marks) == 2 else 4):
                for room in range(rooms.many()):
                    rows = [row for row in rows_of_length(rooms.marks, length) if can_walk(rooms, room, row)]
                    self.assertEqual([row_at(rooms, room, length, number) for number in range(len(rows))], rows)
                    self.assertEqual([number_of(rooms, room, row) for row in rows], list(range(len(rows))))

    def test_the_order_is_that_of_the_marks(self):
        self.assertEqual([row_at(GOLDEN, 0, 2, number) for number in range(3)], ["bb", "ba", "ab"])
        self.assertEqual([number_of(GOLDEN, 0, row) for row in ("bb", "ba", "ab")], [0, 1, 2])
        self.assertEqual([row_at(GOLDEN, 1, 2, number) for number in range(2)], ["bb", "ba"])

    def test_length_nought(self):
        self.assertEqual(row_at(GOLDEN, 1, 0, 0), "")
        self.assertEqual(number_of(GOLDEN, 1, ""), 0)
        for number in (-1, 1, 2):
            self.assertRaises(NoRow, row_at, GOLDEN, 0, 0, number)

    def test_numbers_that_no_row_has(self):
        for rooms in (GOLDEN, least(living(rooms_of(Gap("ab", "b", 1, 2))))):
            for room in range(rooms.many()):
                for length in (1, 2, 5, 400):
                    many = count(rooms, room, length)
                    for number in (-1, -many, many, many + 1, 10 ** 6000):
                        self.assertRaises(NoRow, row_at, rooms, room, length, number)
                    self.assertEqual(number_of(rooms, room, row_at(rooms, room, length, many - 1)), many - 1)

    def test_great_lengths(self):
        for rooms in (GOLDEN, least(living(rooms_of(Alike("a0z9", 2)))), least(living(rooms_of(Gap("ab", "b", 1, 3))))):
            for room in range(min(rooms.many(), 3)):
                many = count(rooms, room, 400)
                for number in (0, 1, many // 3, many // 2, many - 1):
                    row = row_at(rooms, room, 400, number)
                    self.assertEqual(len(row), 400)
                    self.assertTrue(can_walk(rooms, room, row))
                    self.assertEqual(number_of(rooms, room, row), number)
        self.assertEqual(row_at(rooms_of(Rule("ba")), 0, 400, 5), "b" * 397 + "aba")


class NumberOfTest(unittest.TestCase):
    def test_rows_that_can_not_be_walked(self):
        for room, row in ((0, "aa"), (1, "a"), (1, "ab"), (0, "bbaab"), (1, "baa")):
            with self.subTest(room=room, row=row), self.assertRaises(NoRow):
                number_of(GOLDEN, room, row)

    def test_signs_that_are_no_mark_ahead_of_the_broken_place(self):
        for room, row in ((0, "x"), (0, "bx"), (0, "axa"), (0, "xaa"), (1, "bBa"), (0, "ab "), (0, "b" * 399 + "c")):
            with self.subTest(room=room, row=row), self.assertRaises(BadMark):
                number_of(GOLDEN, room, row)

    def test_signs_that_are_no_mark_behind_the_broken_place(self):
        for room, row in ((0, "aax"), (1, "ax"), (1, "a "), (0, "baabx")):
            with self.subTest(room=room, row=row), self.assertRaises(NoRow):
                number_of(GOLDEN, room, row)


if __name__ == "__main__":
    unittest.main()
