import random
import re
import unittest

from grooveway.errors import BadTable
from grooveway.table import Table
from grooveway.tables import read_table, table_text
from helpers import plain, random_ways, tables_of_rooms, told_table

TEXT = """table 2 3 1 2
lead ab0
first 1
place 7
way aba 1
way 0b0 0
place 0
way bbb 0
way a9z 1"""
TABLE = Table("ab0", 1, 1, [7, 0], [[("aba", 1), ("0b0", 0)], [("bbb", 0), ("a9z", 1)]])
NUMBER = "(0|[1-9][0-9]{0,5})"


def first_bad_row(text):
    """The number that point 9.2 tells, row by row; None where the text writes a table."""
    rows = text.split("\n")
    head = re.fullmatch(f"table {NUMBER} {NUMBER} {NUMBER} {NUMBER}", rows[0])
    if head is None or "0" in (head[1], head[2], head[4]):
        return 1
    signs, length, places = int(head[1]), int(head[2]), int(head[4])
    whole = 3 + places * (signs + 1)
    for number, row in enumerate(rows[1:], start=2):
        if number > whole:
            return number
        if number == 2:
            said = re.fullmatch("lead( [a-z0-9]+)?", row)
        elif number == 3:
            said = re.fullmatch(f"first {NUMBER}", row)
            said = said and int(said[1]) < places
        elif (number - 4) % (signs + 1) == 0:
            said = re.fullmatch(f"place {NUMBER}", row)
        else:
            said = re.fullmatch(f"way ([a-z0-9]+) {NUMBER}", row)
            said = said and len(said[1]) == length and int(said[2]) < places
        if not said:
            return number
    return None if len(rows) == whole else len(rows) + 1


class TableTextTest(unittest.TestCase):
    def test_to_the_sign(self):
        self.assertEqual(table_text(TABLE), TEXT)
        self.assertEqual(table_text(Table("", 0, 0, [0], [[("a", 0)]])), "table 1 1 0 1\nlead\nfirst 0\nplace 0\nway a 0")

    def test_numbers_of_six_figures(self):
        table = Table("a", 0, 999999, [999999], [[("b", 0)]])
        self.assertEqual(table_text(table), "table 1 1 999999 1\nlead a\nfirst 0\nplace 999999\nway b 0")
        self.assertEqual(told_table(read_table(table_text(table))), told_table(table))


class ThereAndBackTest(unittest.TestCase):
    def check(self, table):
        text = table_text(table)
        self.assertIsNone(first_bad_row(text))
        again = read_table(text)
        self.assertEqual(told_table(again), told_table(table))
        self.assertEqual(table_text(again), text)
        self.assertTrue(plain(told_table(again)))
        self.assertEqual((type(again.homes), type(again.ways), type(again.ways[0]), type(again.ways[0][0])), (tuple,) * 4)

    def test_some(self):
        self.check(TABLE)
        self.check(Table("", 0, 0, [0], [[("a", 0)]]))
        self.check(Table("0", 1, 12, [5, 123456], [[("zz99", 1)], [("aaaa", 0)]]))

    def test_tables_of_rooms(self):
        for rooms, table in tables_of_rooms():
            self.check(table)

    def test_tables_made_at_random(self):
        source = random.Random(71)
        for again in range(60):
            many = source.randint(1, 5)
            homes = [source.choice((0, 1, 9, 10, 99999, 100000)) for place in range(many)]
            ways = random_ways(source, many, source.randint(1, 4), ["a0", "zz", "9b"])
            lead = "".join(source.choice("ab09z") for place in range(source.randint(0, 3)))
            self.check(Table(lead, source.randrange(many), source.randrange(1000), homes, ways))

    def test_numbers_above_nine(self):
        self.check(Table("", 10, 0, [0] * 11, [[("a", 10)]] * 11))


class BadTableTest(unittest.TestCase):
    def refused(self, text, number=None):
        expected = first_bad_row(text)
        self.assertIsNotNone(expected, text)
        if number is not None:
            self.assertEqual(expected, number, text)
        with self.assertRaises(BadTable) as caught:
            read_table(text)
        self.assertEqual(caught.exception.row, expected, text)
        self.assertIs(type(caught.exception.row), int)

    def changed(self, number, row):
        rows = TEXT.split("\n")
        rows[number - 1] = row
        return "\n".join(rows)

    def test_no_text_and_texts_that_end_too_early(self):
        self.refused("", 1)
        rows = TEXT.split("\n")
        for many in range(1, len(rows)):
            self.refused("\n".join(rows[:many]), many + 1)
            self.refused("\n".join(rows[:many]) + "\n", many + 1)

    def test_a_text_that_goes_on(self):
        for more in ("\n", "\n\n", "\nway aba 0", "\nplace 0", "\n#"):
            self.refused(TEXT + more, 10)

    def test_each_row_left_out_put_twice_and_put_in_the_place_of_another(self):
        rows = TEXT.split("\n")
        for one in range(len(rows)):
            self.refused("\n".join(rows[:one] + rows[one + 1:]))
            self.refused("\n".join(rows[:one + 1] + rows[one:]))
            for other in range(len(rows)):
                moved = list(rows)
                moved[one], moved[other] = moved[other], moved[one]
                text = "\n".join(moved)
                if first_bad_row(text) is not None:
                    self.refused(text)
                else:
                    self.assertEqual(table_text(read_table(text)), text)
                put = "\n".join(rows[:one] + [rows[other]] + rows[one + 1:])
                if first_bad_row(put) is not None:
                    self.refused(put)

    def test_the_first_row(self):
        for row in ("table 2 3 1", "table 2 3 1 2 0", "table", "tables 2 3 1 2", "Table 2 3 1 2", "table 0 3 1 2",
                    "table 2 0 1 2", "table 2 3 1 0", "table 02 3 1 2", "table 2 3 00 2", "table 2 3 1 1000000",
                    "table 2 3 0000001 2", "table -2 3 1 2", "table +2 3 1 2", "table 2  3 1 2", "table 2 3 1 2 ",
                    " table 2 3 1 2", "table 2 3 a 2", "table 2 3 1 2\t", "table 2 3 1 2\r", "table 2 3 1_0 2", "",
                    "table\t2 3 1 2", "table 2 3 \u0663 2", "table 2 3 1.0 2"):
            self.refused(self.changed(1, row), 1)

    def test_the_lead(self):
        for row in ("lead ", "lead  ab", "lead ab ", "lead a b", "lead aB", "lead a-", "lead #", "Lead ab", " lead",
                    "leads", "first 1", "", "lead a\t", "lead \u00e9", "lead ab\r"):
            self.refused(self.changed(2, row), 2)
        self.assertEqual(read_table(self.changed(2, "lead")).lead, "")
        self.assertEqual(read_table(self.changed(2, "lead zz9")).lead, "zz9")

    def test_the_first_place(self):
        for row in ("first 2", "first 3", "first 999999", "first 01", "first", "first 1 ", "first  1", "first -1",
                    "first a", "first 1 1", "first 1000000", "First 1", "place 1", ""):
            self.refused(self.changed(3, row), 3)
        self.assertEqual(read_table(self.changed(3, "first 0")).first, 0)

    def test_homes(self):
        for number in (4, 7):
            for row in ("place", "place 00", "place 07", "place 1000000", "place 0000001", "place -1", "place a",
                        "place 1 2", "place 1 ", "place  1", "Place 1", "way aba 1", "", "place \u0661"):
                self.refused(self.changed(number, row), number)
            self.assertIn(999999, read_table(self.changed(number, "place 999999")).homes)

    def test_ways(self):
        for number in (5, 6, 8, 9):
            for row in ("way ab 1", "way abab 1", "way aba 2", "way aba 999999", "way aba 1000000", "way aba 01",
                        "way aba", "way aba 1 1", "way  1", "way aba  1", "way aba 1 ", " way aba 1", "way aBa 1",
                        "way a-a 1", "way a#a 1", "way aba -1", "way aba x", "ways aba 1", "place 1", "", "way 1 aba"):
                self.refused(self.changed(number, row), number)
            self.assertEqual(table_text(read_table(self.changed(number, "way 000 0"))), self.changed(number, "way 000 0"))

    def test_the_first_of_several(self):
        self.refused(self.changed(6, "way").replace("place 0", "place"), 6)
        self.refused(self.changed(9, "way").replace("place 7", "place"), 4)
        self.refused("table 2 3 1 2\nlead A\nfirst 9", 2)

    def test_great_numbers_with_few_rows(self):
        self.refused("table 999999 999999 999999 999999\nlead\nfirst 999998\nplace 0", 5)
        self.refused("table 1 1 0 999999\nlead\nfirst 999998\nplace 0\nway a 999998", 6)
        self.refused("table 1 1 0 999999\nlead\nfirst 999999\nplace 0\nway a 999998", 3)

    def test_texts_made_at_random(self):
        source = random.Random(72)
        for again in range(3000):
            place = source.randrange(len(TEXT) + 1)
            cut = source.randrange(3)
            text = TEXT[:place] + source.choice(["", "", "0", "1", "9", "a", " ", "\n", "Z"]) + TEXT[place + cut:]
            if first_bad_row(text) is None:
                self.assertEqual(table_text(read_table(text)), text)
            else:
                self.refused(text)


if __name__ == "__main__":
    unittest.main()
