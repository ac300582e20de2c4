import random
import unittest

from grooveway.errors import BadMark, Unread
from grooveway.least import memory
from grooveway.rooms import Rooms
from grooveway.table import Table
from grooveway.windows import read_windows, sign_at
from grooveway.writing import written
from helpers import can_walk, rows_of_ways, tables_of_rooms, told_table, walk

ALONE = Rooms("abcd", [[0, 0, 0, 0]])
# The last mark tells the room: `a` leads to 0, `b` to 1, and from 1 no `b` goes on.
LAST = Rooms("ab", [[0, 1], [0, None]])
# The same blocks from both rooms, by unlike signs.
BY_LAST = Table("", 0, 0, [0, 1], [[("ab", 1), ("aa", 0)], [("aa", 0), ("ab", 1)]])
# Of all rooms alike: the second block tells the sign of the first.
LATE = Table("c", 0, 1, [0, 0, 0], [[("a", 1), ("a", 2)], [("b", 0), ("c", 0)], [("d", 0), ("d", 0)]])


def tables_with_a_memory():
    return [(rooms, table) for rooms, table in tables_of_rooms() if memory(rooms) is not None]


def sign_by_rows(rooms, table, past, blocks):
    """What point 8.6 tells of one block, by writing out all rows of ways."""
    m = memory(rooms)
    begins = [0] if len(past) < m else range(len(rooms.ways))
    homes = {walk(rooms, room, past) for room in begins if can_walk(rooms, room, past)}
    signs = {signs[0] for place, home in enumerate(table.homes) if home in homes
             for signs, spelled in rows_of_ways(table.ways, place, len(blocks)) if spelled == tuple(blocks)}
    return signs.pop() if len(signs) == 1 else 0


class SignAtTest(unittest.TestCase):
    def test_a_memory_of_nought(self):
        table = Table("", 0, 0, [0], [[("b", 0), ("a", 0), ("d", 0)]])
        self.assertEqual([sign_at(ALONE, table, "", [block]) for block in ("b", "a", "d")], [0, 1, 2])

    def test_a_memory_of_one(self):
        # By the room to which the last mark leads, whatever room it was gone from.
        self.assertEqual([sign_at(LAST, BY_LAST, "a", [block]) for block in ("ab", "aa")], [0, 1])
        self.assertEqual([sign_at(LAST, BY_LAST, "b", [block]) for block in ("ab", "aa")], [1, 0])

    def test_fewer_marks_than_are_remembered_are_gone_from_room_nought(self):
        self.assertEqual([sign_at(LAST, BY_LAST, "", [block]) for block in ("ab", "aa")], [0, 1])
        two = Rooms("ab", [[0, 1], [2, None], [0, None]])
        self.assertEqual(memory(two), 2)
        table = Table("", 0, 0, [0, 1, 2], [[("aab", 1), ("aaa", 0)], [("aaa", 0), ("aab", 1)], [("aab", 1), ("aaa", 0)]])
        # `b` alone was gone from room 0 to room 1.
        self.assertEqual([sign_at(two, table, "b", [block]) for block in ("aab", "aaa")], [1, 0])
        self.assertEqual([sign_at(two, table, "", [block]) for block in ("aab", "aaa")], [0, 1])
        self.assertEqual([sign_at(two, table, "ab", [block]) for block in ("aab", "aaa")], [1, 0])
        self.assertEqual([sign_at(two, table, "ba", [block]) for block in ("aab", "aaa")], [0, 1])

    def test_marks_that_can_be_walked_from_no_room(self):
        two = Rooms("ab", [[0, 1], [2, None], [0, None]])
        table = Table("", 0, 0, [0], [[("aaa", 0), ("aab", 0)]])
        self.assertEqual(sign_at(two, table, "bb", ["aab"]), 0)
        self.assertEqual(sign_at(two, table, "aa", ["aab"]), 1)

    def test_blocks_that_no_ways_spell(self):
        for blocks in (["a", "a"], ["b", "d"], ["d", "a"], ["c", "c"]):
            self.assertEqual(sign_at(ALONE, Table("", 0, 1, [0, 1, 1], LATE.ways), "", blocks), 0)
        self.assertEqual(sign_at(ALONE, Table("", 0, 1, [0, 1, 1], LATE.ways), "", ["a", "d"]), 1)

    def test_blocks_that_unlike_ways_spell(self):
        table = Table("", 0, 0, [0], [[("b", 0), ("a", 0), ("a", 0)]])
        self.assertEqual(sign_at(ALONE, table, "", ["a"]), 0)
        table = Table("", 0, 0, [0, 0], [[("b", 0), ("a", 0), ("c", 0)], [("b", 1), ("c", 1), ("a", 1)]])
        self.assertEqual(sign_at(ALONE, table, "", ["c"]), 0)
        # Ways of one sign from two places are not unlike.
        table = Table("", 0, 0, [0, 0], [[("b", 0), ("a", 0)], [("c", 1), ("a", 1)]])
        self.assertEqual(sign_at(ALONE, table, "", ["a"]), 1)

    def test_lists_handed_in_stay(self):
        blocks = ["ab"]
        self.assertIs(type(sign_at(LAST, BY_LAST, "a", blocks)), int)
        self.assertEqual(blocks, ["ab"])


class ReadWindowsTest(unittest.TestCase):
    def test_small_ones(self):
        self.assertEqual(read_windows(LAST, BY_LAST, ""), [])
        self.assertEqual(written(BY_LAST, [0, 1, 0, 1, 1]), "abab" + "aa" + "aa" + "aa")
        self.assertEqual(read_windows(LAST, BY_LAST, "abab" + "aa" + "aa" + "aa"), [0, 1, 0, 1, 1])

    def test_written_rows_are_read_as_their_signs(self):
        source = random.Random(51)
        tried = {}
        for rooms, table in tables_with_a_memory():
            tried[memory(rooms)] = True
            before = told_table(table)
            for length in (0, 1, 2, 12):
                signs = [source.randrange(table.signs()) for place in range(length)]
                told = read_windows(rooms, table, written(table, signs))
                self.assertEqual(told, signs)
                self.assertIs(type(told), list)
            self.assertEqual(told_table(table), before)
        self.assertTrue({0, 1, 2} <= set(tried))

    def test_one_mark_put_otherwise(self):
        source = random.Random(52)
        changed = 0
        for rooms, table in tables_with_a_memory():
            m, q, ahead, lead = memory(rooms), table.block_length(), table.ahead, len(table.lead)
            signs = [source.randrange(table.signs()) for place in range(6)]
            row = written(table, signs)
            for place in range(len(row)):
                other = source.choice([mark for mark in rooms.marks if mark != row[place]])
                spoilt = row[:place] + other + row[place + 1:]
                told = read_windows(rooms, table, spoilt)
                self.assertEqual(len(told), len(signs))
                for number, sign in enumerate(told):
                    begin = lead + number * q
                    if not begin - m <= place < begin + q * (ahead + 1):
                        self.assertEqual(sign, signs[number])
                    changed += sign != signs[number]
                    self.assertIn(sign, range(table.signs()))
        self.assertGreater(changed, 50)

    def test_held_against_the_point(self):
        source = random.Random(53)
        for rooms, table in tables_with_a_memory():
            q, ahead, lead, m = table.block_length(), table.ahead, len(table.lead), memory(rooms)
            if table.signs() ** (ahead + 1) > 300:
                continue
            for again in range(4):
                many = ahead + source.randint(0, 4)
                row = "".join(source.choice(rooms.marks) for place in range(lead + q * many))
                blocks = [row[place:place + q] for place in range(lead, len(row), q)]
                expected = [sign_by_rows(rooms, table, row[max(0, lead + t * q - m):lead + t * q],
                                         blocks[t:t + ahead + 1]) for t in range(many - ahead)]
                self.assertEqual(read_windows(rooms, table, row), expected)

    def test_another_lead_of_the_same_length(self):
        self.assertEqual(memory(LAST), 1)
        table = Table("ba", 0, 0, [0, 1], BY_LAST.ways)
        row = written(table, [1, 0, 1])
        self.assertEqual(row[:2], "ba")
        for lead in ("ba", "aa"):
            self.assertEqual(read_windows(LAST, table, lead + row[2:]), [1, 0, 1])
        # The lead's last mark is in the first window, and tells another room there.
        self.assertEqual(read_windows(LAST, table, "ab" + row[2:]), [0, 0, 1])

    def test_bad_mark_ahead_of_unread(self):
        for row in ("x", "abx", "xab", "a b", "abc", "abxx", "abab?", "aB", "abaX"):
            with self.subTest(row=row), self.assertRaises(BadMark):
                read_windows(LAST, BY_LAST, row)
        led = Table("ba", 0, 1, [0, 1], BY_LAST.ways)
        for row in ("x", "bx", "xaab", "baab?", "baxb"):
            with self.subTest(row=row), self.assertRaises(BadMark):
                read_windows(LAST, led, row)

    def test_unread(self):
        self.assertRaises(Unread, read_windows, LAST, BY_LAST, "a")
        self.assertRaises(Unread, read_windows, LAST, BY_LAST, "aba")
        led = Table("baa", 0, 1, [0, 1], BY_LAST.ways)
        self.assertEqual(read_windows(LAST, led, "baaab"), [])
        # Shorter than the lead, the lead alone, and no whole blocks.
        for row in ("", "b", "ba", "a", "baa", "baaa", "baaaba", "abb"):
            with self.subTest(row=row), self.assertRaises(Unread):
                read_windows(LAST, led, row)

    def test_rows_that_can_not_be_walked_are_read_too(self):
        self.assertEqual(len(read_windows(LAST, BY_LAST, "bbbbbb")), 3)
        self.assertEqual(read_windows(LAST, BY_LAST, "bbbbaa"), [0, 0, 0])


if __name__ == "__main__":
    unittest.main()
