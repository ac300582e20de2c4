import itertools
import random
import unittest

from grooveway.errors import BadSign, Unread
from grooveway.table import Table, look_of
from grooveway.writing import read, written
from helpers import random_ways, rows_of_ways, tables_of_rooms, told_table

# No lead, and each block tells its sign by itself.
PLAIN = Table("", 0, 0, [0, 1], [[("aa", 0), ("ab", 1), ("ba", 0)], [("bb", 1), ("aa", 0), ("ab", 0)]])
# The first block of place 0 is the same by both signs; the next one tells it.
LATE = Table("c", 0, 1, [0, 1, 2], [[("a", 1), ("a", 2)], [("a", 0), ("b", 0)], [("c", 0), ("d", 0)]])


def read_by_rows(table, row):
    """What point 8.5 tells, by writing out all rows of ways; None where the row is refused."""
    length = len(table.ways[0][0][0])
    rest = row[len(table.lead):]
    blocks = tuple(rest[place:place + length] for place in range(0, len(rest), length))
    if row[:len(table.lead)] != table.lead or len(rest) % length or len(blocks) < table.ahead:
        return None
    place, told = table.first, []
    while len(blocks) > table.ahead:
        signs = {signs[0] for signs, spelled in rows_of_ways(table.ways, place, table.ahead + 1)
                 if spelled == blocks[:table.ahead + 1]}
        if len(signs) != 1:
            return None
        told.append(signs.pop())
        place = table.ways[place][told[-1]][1]
        blocks = blocks[1:]
    return told


class WrittenTest(unittest.TestCase):
    def test_ahead_of_nought_and_no_lead(self):
        self.assertEqual(written(PLAIN, []), "")
        self.assertEqual(written(PLAIN, [0]), "aa")
        self.assertEqual(written(PLAIN, [1, 0, 2, 2]), "abbbabba")

    def test_a_lead_and_blocks_behind(self):
        self.assertEqual(written(LATE, []), "ca")
        self.assertEqual(written(LATE, [1]), "cac")
        self.assertEqual(written(LATE, [0]), "caa")
        self.assertEqual(written(LATE, [1, 1, 0]), "cadaa")
        far = Table("ab", 1, 3, [0, 0], [[("x", 1), ("y", 0)], [("z", 0), ("w", 1)]])
        self.assertEqual(written(far, []), "abzxz")
        self.assertEqual(written(far, [1, 0]), "abwzxzx")

    def test_signs_that_are_none(self):
        for table, n in ((PLAIN, 3), (LATE, 2)):
            self.assertEqual(len(written(table, [n - 1])) > 0, True)
            for bad in (-1, -n, n, n + 1, 99):
                for signs in ([bad], [0, bad], [bad, 0], [0, 0, bad, 0], [0] * 30 + [bad]):
                    with self.subTest(n=n, signs=signs), self.assertRaises(BadSign):
                        written(table, signs)

    def test_the_list_handed_in_stays(self):
        signs = [1, 0]
        written(LATE, signs)
        self.assertEqual(signs, [1, 0])
        self.assertRaises(BadSign, written, LATE, [2, 0])


class ReadTest(unittest.TestCase):
    def test_small_ones(self):
        self.assertEqual(read(PLAIN, ""), [])
        self.assertEqual(read(PLAIN, "abbbabba"), [1, 0, 2, 2])
        self.assertEqual(read(LATE, "ca"), [])
        self.assertEqual(read(LATE, "cac"), [1])
        self.assertEqual(read(LATE, "cadaa"), [1, 1, 0])

    def test_only_as_many_signs_as_blocks_are_left(self):
        # The last block tells the one ahead of it and no sign of its own, be it what it may.
        self.assertEqual(read(LATE, "cad"), [1])
        self.assertEqual(read(LATE, "cx"), [])

    def test_another_lead(self):
        for row in ("", "a", "aac", "xac", "Cac"):
            with self.subTest(row=row), self.assertRaises(Unread):
                read(LATE, row)

    def test_not_whole_blocks(self):
        for row in ("a", "aaa", "abb", "abbbabb"):
            with self.subTest(row=row), self.assertRaises(Unread):
                read(PLAIN, row)
        # Where what is left over would stand among the blocks that no sign is told for.
        far = Table("b", 0, 2, [0], [[("ab", 0), ("ba", 0)]])
        self.assertEqual(read(far, "babab"), [])
        for row in ("baba", "bababa"):
            with self.subTest(row=row), self.assertRaises(Unread):
                read(far, row)

    def test_too_few_blocks(self):
        self.assertRaises(Unread, read, LATE, "c")
        far = Table("", 0, 3, [0], [[("ab", 0), ("ba", 0)]])
        self.assertEqual(read(far, "ababab"), [])
        for row in ("", "ab", "abab"):
            with self.subTest(row=row), self.assertRaises(Unread):
                read(far, row)

    def test_blocks_that_no_row_of_ways_spells(self):
        for row in ("cxa", "cax", "cab" + "c", "cacdz"):
            with self.subTest(row=row), self.assertRaises(Unread):
                read(LATE, row)
        for row in ("bb", "abba", "aaxx", "aa??", "aabbaa"):
            with self.subTest(row=row), self.assertRaises(Unread):
                read(PLAIN, row)

    def test_ahead_above_the_look(self):
        for ahead in (1, 2, 5):
            table = Table("c", 0, ahead, LATE.homes, LATE.ways)
            for signs in itertools.product((0, 1), repeat=4):
                row = written(table, list(signs))
                self.assertEqual(len(row), 1 + 4 + ahead)
                self.assertEqual(read(table, row), list(signs))

    def test_tables_of_rooms_read_what_they_write(self):
        source = random.Random(41)
        for rooms, table in tables_of_rooms():
            before = told_table(table)
            for length in (0, 1, 2, 3, 25):
                signs = [source.randrange(table.signs()) for place in range(length)]
                row = written(table, signs)
                told = read(table, row)
                self.assertEqual(told, signs)
                self.assertIs(type(told), list)
                self.assertIsNotNone(rooms.walked(0, row))
                self.assertEqual(len(row), len(table.lead) + (length + table.ahead) * table.block_length())
            self.assertEqual(told_table(table), before)

    def test_held_against_all_rows_of_ways(self):
        source = random.Random(42)
        tried = 0
        refused = 0
        while tried < 120:
            many = source.randint(1, 4)
            homes = list(range(many))
            ways = random_ways(source, many, source.randint(1, 3), ["a", "b", "c"])
            look = look_of(homes, ways)
            if look is None or look > 3:
                continue
            tried += 1
            table = Table(source.choice(("", "c")), source.randrange(many), look + source.randrange(2), homes, ways)
            for again in range(10):
                row = table.lead + "".join(source.choice("abc") for place in range(source.randint(0, 5)))
                expected = read_by_rows(table, row)
                if expected is None:
                    refused += 1
                    self.assertRaises(Unread, read, table, row)
                else:
                    self.assertEqual(read(table, row), expected)
        self.assertGreater(refused, 100)


if __name__ == "__main__":
    unittest.main()
