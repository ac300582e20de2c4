import unittest

from grooveway.blocks import block_table, blocks_from
from grooveway.counts import count
from grooveway.rooms import Rooms
from helpers import lists_in, living_rooms, plain, rows_of_length, walk

GOLDEN = Rooms("ba", [[0, 1], [0, None]])


class BlocksFromTest(unittest.TestCase):
    def test_small_ones(self):
        self.assertEqual(blocks_from(GOLDEN, 0, 1), [("b", 0), ("a", 1)])
        self.assertEqual(blocks_from(GOLDEN, 1, 1), [("b", 0)])
        self.assertEqual(blocks_from(GOLDEN, 0, 2), [("bb", 0), ("ba", 1), ("ab", 0)])
        self.assertEqual(blocks_from(GOLDEN, 1, 3), [("bbb", 0), ("bba", 1), ("bab", 0)])

    def test_held_against_all_rows_in_order(self):
        for rooms in living_rooms():
            for q in (1, 2, 3, 4):
                for room in range(rooms.many()):
                    ends = [(row, walk(rooms, room, row)) for row in rows_of_length(rooms.marks, q)]
                    told = blocks_from(rooms, room, q)
                    self.assertEqual(told, [pair for pair in ends if pair[1] is not None])
                    self.assertTrue(plain(told))
                    self.assertTrue(all(type(pair) is tuple for pair in told))
                    self.assertEqual(len(told), count(rooms, room, q))

    def test_the_list_is_the_askers_own(self):
        told = blocks_from(GOLDEN, 0, 2)
        told.clear()
        self.assertEqual(blocks_from(GOLDEN, 0, 2), [("bb", 0), ("ba", 1), ("ab", 0)])


class BlockTableTest(unittest.TestCase):
    def test_small_ones(self):
        self.assertEqual(block_table(GOLDEN, 1), [[1, 1], [1, 0]])
        self.assertEqual(block_table(GOLDEN, 2), [[2, 1], [1, 1]])
        self.assertEqual(block_table(GOLDEN, 4), [[5, 3], [3, 2]])
        self.assertEqual(block_table(Rooms("abcd", [[0, 0, 0, 0]]), 4), [[256]])

    def test_held_against_the_blocks_counted(self):
        for rooms in living_rooms():
            for q in (1, 2, 3, 4):
                table = block_table(rooms, q)
                many = rooms.many()
                self.assertIs(type(table), list)
                self.assertEqual([type(numbers) for numbers in table], [list] * many)
                for room in range(many):
                    ends = [pair[1] for pair in blocks_from(rooms, room, q)]
                    self.assertEqual(table[room], [ends.count(to) for to in range(many)])

    def test_no_two_lists_are_one_and_all_are_the_askers_own(self):
        rooms = Rooms("ab", [[1, 0], [0, 1]])
        table = block_table(rooms, 2)
        self.assertEqual(len(set(lists_in(table))), 3)
        table[0][0] = 99
        table[1].clear()
        table.append([])
        self.assertEqual(block_table(rooms, 2), [[2, 2], [2, 2]])


if __name__ == "__main__":
    unittest.main()
