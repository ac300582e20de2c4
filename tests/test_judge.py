import random
import unittest

from grooveway.judge import judged
from grooveway.rooms import Rooms
from grooveway.table import Table, look_of
from grooveway.writing import read, written
from helpers import can_walk, plain, random_ways, tables_of_rooms, told_table, walk

LAST = Rooms("ab", [[0, 1], [0, None]])
HOMES = [0, 1]
WAYS = [[("aa", 0), ("ab", 1)], [("aa", 0), ("ab", 1)]]


def with_way(place, sign, way):
    ways = [list(own) for own in WAYS]
    ways[place][sign] = way
    return ways


def faults_of(rooms, table):
    """The faults as point 9.1 tells them."""
    def leads(home, row, to):
        in_rooms = 0 <= home < len(rooms.ways)
        of_marks = all(sign in rooms.marks for sign in row)
        return in_rooms and of_marks and can_walk(rooms, home, row) and walk(rooms, home, row) == to

    faults = [] if leads(0, table.lead, table.homes[table.first]) else [("lead",)]
    for place, own in enumerate(table.ways):
        for sign, (block, to) in enumerate(own):
            if not leads(table.homes[place], block, table.homes[to]):
                faults.append(("way", place, sign))
    look = look_of(table.homes, table.ways)
    return faults + ([] if look is not None and look <= table.ahead else [("look",)])


class JudgedTest(unittest.TestCase):
    def check(self, table, faults):
        before = told_table(table)
        told = judged(LAST, table)
        self.assertEqual(told, faults)
        self.assertIs(type(told), list)
        self.assertTrue(plain(told) and all(type(fault) is tuple for fault in told))
        self.assertEqual(told_table(table), before)

    def test_no_fault(self):
        self.check(Table("", 0, 0, HOMES, WAYS), [])
        self.check(Table("ab", 1, 0, HOMES, WAYS), [])
        self.check(Table("aba", 0, 3, HOMES, WAYS), [])

    def test_the_lead(self):
        # It can't be walked, or leads to another home than that of the first place.
        for lead, first in (("bb", 0), ("bb", 1), ("b", 0), ("", 1), ("a", 1), ("ab", 0), ("abba", 0)):
            self.check(Table(lead, first, 0, HOMES, WAYS), [("lead",)])

    def test_a_sign_that_is_no_mark_in_the_lead(self):
        for lead in ("x", "ax", "xa", "bbx", "a a", "A"):
            self.check(Table(lead, 0, 0, HOMES, WAYS), [("lead",)])

    def test_a_block_that_can_not_be_walked(self):
        self.check(Table("", 0, 0, HOMES, with_way(1, 1, ("ba", 0))), [("way", 1, 1)])
        self.check(Table("", 0, 0, HOMES, with_way(0, 0, ("bb", 0))), [("way", 0, 0)])

    def test_a_block_that_leads_to_another_home(self):
        self.check(Table("", 0, 0, HOMES, with_way(0, 0, ("aa", 1))), [("way", 0, 0)])
        self.check(Table("", 0, 0, HOMES, with_way(1, 1, ("ab", 0))), [("way", 1, 1)])

    def test_a_sign_that_is_no_mark_in_a_block(self):
        for block in ("xa", "ax", "a ", "bx", "cc"):
            self.check(Table("", 0, 0, HOMES, with_way(0, 0, (block, 0))), [("way", 0, 0)])
        self.check(Table("", 0, 0, HOMES, with_way(1, 0, ("bx", 0))), [("way", 1, 0)])

    def test_a_home_that_is_no_room(self):
        for home in (-1, -2, -3, 2, 3, 999999):
            # The ways from the place with that home, and those that lead to it.
            self.check(Table("", 0, 0, [0, home], WAYS), [("way", 0, 1), ("way", 1, 0), ("way", 1, 1)])
            self.check(Table("b", 1, 0, [0, home], WAYS), [("lead",), ("way", 0, 1), ("way", 1, 0), ("way", 1, 1)])
        self.check(Table("", 0, 0, [-2], [[("aa", 0), ("ba", 0)]]), [("lead",), ("way", 0, 0), ("way", 0, 1)])

    def test_the_look(self):
        rooms = Rooms("abcd", [[0, 0, 0, 0]])
        ways = [[("a", 1), ("a", 2)], [("b", 0), ("c", 0)], [("d", 0), ("d", 0)]]
        self.assertEqual(look_of([0, 0, 0], ways), None)
        self.assertEqual(judged(rooms, Table("", 0, 9, [0, 0, 0], ways)), [("look",)])
        ways = [[("a", 1), ("b", 1)], [("c", 0), ("c", 2)], [("d", 0), ("a", 1)]]
        self.assertEqual(look_of([0, 0, 0], ways), None)
        ways = [[("a", 1), ("a", 2)], [("a", 1), ("b", 2)], [("c", 1), ("d", 2)]]
        look = look_of([0, 0, 0], ways)
        for ahead in (0, 1, 2, 3, 9):
            faults = [] if look is not None and ahead >= look else [("look",)]
            self.assertEqual(judged(rooms, Table("", 0, ahead, [0, 0, 0], ways)), faults)

    def test_ahead_above_the_look_at_it_and_below_it(self):
        tried = 0
        for rooms, table in tables_of_rooms():
            self.assertEqual(judged(rooms, table), [])
            for ahead in range(table.ahead + 3):
                tried += ahead < table.ahead
                other = Table(table.lead, table.first, ahead, table.homes, table.ways)
                self.assertEqual(judged(rooms, other), [] if ahead >= table.ahead else [("look",)])
        self.assertGreater(tried, 20)

    def test_several_faults_in_their_order(self):
        ways = [[("bb", 0), ("ab", 0)], [("aa", 1), ("aa", 0)]]
        self.check(Table("b", 0, 0, HOMES, ways), [("lead",), ("way", 0, 0), ("way", 0, 1), ("way", 1, 0), ("look",)])
        same = [[("aa", 0), ("aa", 0)], [("aa", 0), ("ab", 1)]]
        self.check(Table("ab", 0, 5, HOMES, same), [("lead",), ("look",)])

    def test_what_is_told_is_the_askers_own(self):
        table = Table("b", 0, 0, HOMES, WAYS)
        judged(LAST, table).clear()
        self.check(table, [("lead",)])

    def test_held_against_the_point(self):
        source = random.Random(61)
        without = 0
        for again in range(1500):
            many = source.randint(1, 3)
            homes = [source.choice((-1, 0, 0, 0, 1, 1, 2)) for place in range(many)]
            ways = random_ways(source, many, source.randint(1, 2), ["a", "a", "b", "c"])
            table = Table(source.choice(("", "a", "b", "ab", "bb")), source.randrange(many), source.randrange(3), homes, ways)
            told = judged(LAST, table)
            self.assertEqual(told, faults_of(LAST, table))
            if not told:
                without += 1
                for length in range(4):
                    signs = [source.randrange(table.signs()) for place in range(length)]
                    row = written(table, signs)
                    self.assertIsNotNone(LAST.walked(0, row))
                    self.assertEqual(read(table, row), signs)
        self.assertGreater(without, 10)


if __name__ == "__main__":
    unittest.main()
