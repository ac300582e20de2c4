import random
import unittest

from grooveway.blocks import block_table
from grooveway.errors import BadMarks, BadRow, BadRule, BadTable, Nothing, TooLarge
from grooveway.least import least, memory
from grooveway.pages import read_rules
from grooveway.parts import closed_part, lead_to
from grooveway.rooms import living, rooms_of
from grooveway.split import finished
from grooveway.table import Table, table_of
from grooveway.tables import read_table, table_text
from grooveway.web import web_of
from grooveway.weights import most_signs, press, rounds, verdict
from grooveway.whole import answered, looked
from grooveway.windows import read_windows
from grooveway.writing import read, written
from helpers import plain, random_ways

PAGES = [
    "marks ab",
    "marks ab\nnever bb",
    "marks 01\ngap 1 1 3",
    "marks 01\ngap 1 2 7   # as on a disk",
    "marks ba\nalike 2\ngap a 1 2",
    "marks ab\nsum -1 1 1 -1",
    "marks abc\nsum -2 2 1 -1 0\nalike 2",
    "marks abc\nturn a 3 0\nalike 2",
    "marks z0\nturn 0 2 1\ngap z 0 any",
    "marks abcd\nnever abab\nalike 3",
    "marks cab\nnever ab\nnever bc\nnever ca",
    "\n# all kinds\nmarks 10\ngap 1 0 4\nnever 1110\nsum -4 4 1 -1\nturn 1 1 0\nalike 4\n",
    "marks 10\nnever 11\nturn 1 2 0",
    "marks ab\nnever b",
]
# Two `a` are led over to the one room that no way leaves.
LED = "marks abc\nsum -2 0 -1 0 0"
GOLDEN = "marks ab\nnever bb"
REFUSED = [
    ("", BadRow), ("marks", BadRow), ("gap a 1 2", BadRow), ("marks ab\nnever", BadRow), ("marks ab\nalike x", BadRow),
    ("marks aa", BadMarks), ("marks a", BadMarks), ("marks ab\nnever c", BadRule), ("marks ab\nalike 7", BadRule),
    ("marks abcd\nturn a 6 0\nturn b 5 0\nsum 0 2 0 0 1 -1", TooLarge),
    ("marks ab\nnever a\nnever b", Nothing), ("marks ab\nsum 0 8 1 2", Nothing),
]


def rooms_told(page):
    return least(living(rooms_of(read_rules(page))))


def settings():
    """A page, n and q each, with both sides of the most signs among them."""
    for page in PAGES + [LED]:
        for q in (1, 2, 3):
            most = most_signs(block_table(rooms_told(page), q))
            for n in sorted({1, 2, most // 2, most - 1, most, most + 1, most + 5, 64}):
                if 1 <= n <= 64:
                    yield page, n, q


def text_told(page, n, q, most):
    """The answer as point 9.3 tells it."""
    rooms = rooms_told(page)
    table = block_table(rooms, q)
    kind, told = verdict(table, n, most)
    if kind == "press":
        return "press " + " ".join(str(number) for number in told)
    if kind == "close":
        return "close" + "".join("\nround " + " ".join(str(weight) for weight in each) for each in told)
    part = closed_part(table, told)
    row, room = lead_to(rooms, part)
    return table_text(table_of(finished(web_of(rooms, q, told, part), n)[-1], n, row, room))


class AnsweredTest(unittest.TestCase):
    def test_a_table(self):
        self.assertEqual(answered("marks ab", 2, 1), "table 2 1 0 1\nlead\nfirst 0\nplace 0\nway a 0\nway b 0")
        self.assertEqual(answered("marks ba", 1, 2), "table 1 2 0 1\nlead\nfirst 0\nplace 0\nway bb 0")
        self.assertEqual(answered(GOLDEN, 2, 2), "table 2 2 0 2\nlead\nfirst 0\n"
                         "place 0\nway aa 0\nway ab 1\nplace 1\nway aa 0\nway ab 1")

    def test_a_table_with_a_lead(self):
        self.assertEqual(answered(LED, 2, 1), "table 2 1 0 1\nlead aa\nfirst 0\nplace 2\nway b 0\nway c 0")
        self.assertEqual(looked(LED, 2, 1, answered(LED, 2, 1).replace("aa", "a")), [("lead",)])

    def test_a_press(self):
        self.assertEqual(answered("marks ab", 3, 1), "press 1")
        self.assertEqual(answered("marks abcd", 64, 2), "press 1")
        self.assertEqual(answered(GOLDEN, 2, 1), "press 3 2")

    def test_close(self):
        self.assertEqual(answered(GOLDEN, 6, 4, 1), "close\nround 1 1\nround 1 0\nround 0 0")
        self.assertEqual(answered(GOLDEN, 6, 4, most=1), "close\nround 1 1\nround 1 0\nround 0 0")
        self.assertEqual(answered(GOLDEN, 6, 4, 2).split(" ")[0], "table")

    def test_held_against_the_point(self):
        kinds = {}
        leads = {}
        for page, n, q in settings():
            for most in (1, 3, 16):
                text = answered(page, n, q, most)
                self.assertEqual(text, text_told(page, n, q, most))
                kinds[text.split("\n")[0].split(" ")[0]] = True
                leads[text.split("\n")[1] if text.startswith("table") else "lead"] = True
        self.assertEqual(sorted(kinds), ["close", "press", "table"])
        self.assertGreater(len(leads), 1)

    def test_the_most_left_out_is_sixteen(self):
        page, n, q = "marks abcd\nnever ababab\nnever cdcdcd\nalike 4", 63, 3
        text = answered(page, n, q)
        self.assertEqual(text, answered(page, n, q, 16))
        self.assertEqual(text.split("\n")[1], "round" + " 16" * 25)
        self.assertNotEqual(text, answered(page, n, q, 15))
        self.assertEqual(text, answered(page, n, q, 31))
        self.assertEqual(looked(page, n, q, text), [])
        self.assertEqual(looked(page, n, q, text, 15), [("close",)])

    def test_each_refusal(self):
        for page, refusal in REFUSED:
            for n, q in ((1, 1), (64, 4)):
                with self.subTest(page=page), self.assertRaises(refusal):
                    answered(page, n, q)
                with self.subTest(page=page), self.assertRaises(refusal):
                    answered(page, n, q, 1)

    def test_the_order_of_refusals(self):
        # Bad marks and a bad rule ahead of a bad row; bad marks behind a rule that may not stand; and so on.
        with self.assertRaises(BadRow) as caught:
            answered("marks aa\nnever c\nalike", 1, 1)
        self.assertEqual(caught.exception.row, 3)
        self.assertRaises(BadMarks, answered, "marks aa\nnever c", 1, 1)
        large = "marks abcd\nturn a 6 0\nturn b 5 0\nsum 0 2 0 0 1 -1"
        self.assertRaises(BadRule, answered, large + "\nalike 9", 1, 1)
        # Its rooms are too many, and none of them lives.
        self.assertRaises(TooLarge, answered, "marks abcd\nsum 0 8 1 1 1 1\nturn a 6 0\nalike 4", 1, 1)
        self.assertRaises(Nothing, living, rooms_of(read_rules("marks abcd\nsum 0 8 1 1 1 1\nturn a 6 0\nalike 4"), 999))


class LookedTest(unittest.TestCase):
    def test_nothing_is_found_in_answers(self):
        kinds = {}
        for page, n, q in settings():
            for most in (1, 3, 16):
                text = answered(page, n, q, most)
                told = looked(page, n, q, text, most)
                self.assertEqual(told, [], (page, n, q, most))
                self.assertIs(type(told), list)
                kinds[text.split("\n")[0].split(" ")[0]] = True
        self.assertEqual(sorted(kinds), ["close", "press", "table"])

    def test_nothing_is_found_for_blocks_of_four(self):
        for page in PAGES:
            most = most_signs(block_table(rooms_told(page), 4))
            for n in sorted({1, min(most, 64), min(max(most - 1, 1), 64), min(most + 1, 64)}):
                self.assertEqual(looked(page, n, 4, answered(page, n, 4)), [], (page, n))

    def test_what_the_page_is_refused_for_goes_ahead(self):
        for page, refusal in REFUSED:
            for text in ("", "hello", "table", "table 1 1 0 1", "press", "press 1", "close", answered("marks ab", 2, 1)):
                with self.subTest(page=page, text=text), self.assertRaises(refusal):
                    looked(page, 2, 1, text)

    def test_any_other_text(self):
        for text in ("", " ", "\n", "hello", "Table 2 1 0 1", "tables", "table\t2", "\ntable 2 1 0 1", " press 1",
                     "press\t1", "pres 1", "press1", "closed", "close\t", "round 1", "weights 1", "table2 1 0 1", "1"):
            with self.subTest(text=text), self.assertRaises(BadTable) as caught:
                looked("marks ab", 2, 1, text)
            self.assertEqual(caught.exception.row, 1)

    def test_what_is_told_is_the_askers_own(self):
        looked("marks ab", 2, 1, "press 1").append(("more",))
        self.assertEqual(looked("marks ab", 2, 1, "press 1"), [("press",)])
        looked("marks ab", 3, 1, "press 1").append(("more",))
        self.assertEqual(looked("marks ab", 3, 1, "press 1"), [])


class LookedAtTablesTest(unittest.TestCase):
    def setUp(self):
        self.text = answered(GOLDEN, 2, 2)

    def refused(self, text, number):
        with self.assertRaises(BadTable) as caught:
            looked(GOLDEN, 2, 2, text)
        self.assertEqual(caught.exception.row, number, text)

    def test_wish(self):
        self.assertEqual(looked(GOLDEN, 2, 2, self.text), [])
        for n, q in ((1, 2), (3, 2), (2, 1), (2, 3), (3, 4)):
            self.assertEqual(looked(GOLDEN, n, q, self.text), [("wish",)])
        # Nothing else is told then, however faulty the table is.
        faulty = self.text.replace("lead", "lead bb").replace("way aa", "way bb")
        self.assertEqual(looked(GOLDEN, 3, 2, faulty), [("wish",)])

    def test_a_text_that_is_not_read(self):
        self.refused("table", 1)
        self.refused("table\n" + self.text, 1)
        self.refused(self.text + "\n", 10)
        self.refused(self.text.replace("lead", "lead "), 2)
        self.refused(self.text.replace("first 0", "first 2"), 3)
        self.refused(self.text.replace("place 1", "place 01"), 7)
        # Ahead of the wish and of all faults.
        self.refused(self.text.replace("table 2", "table 1"), 6)
        self.refused(self.text.replace("table 2 2", "table 2 3"), 5)

    def test_faults(self):
        for old, new, faults in (
                ("lead", "lead b", [("lead",)]), ("lead", "lead bb", [("lead",)]), ("lead", "lead xyz", [("lead",)]),
                ("lead", "lead aba", []), ("first 0", "first 1", [("lead",)]),
                ("way aa 0\nway ab 1\nplace", "way bb 0\nway ab 1\nplace", [("way", 0, 0)]),
                ("way ab 1\nplace", "way ab 0\nplace", [("way", 0, 1)]),
                ("way aa 0\nway ab 1\nplace", "way aa 0\nway aa 0\nplace", [("look",)]),
                ("place 1", "place 2", [("way", 0, 1), ("way", 1, 0), ("way", 1, 1)]),
                ("place 1", "place 999999", [("way", 0, 1), ("way", 1, 0), ("way", 1, 1)]),
                ("way aa", "way ca", [("way", 0, 0), ("way", 1, 0)])):
            text = self.text.replace(old, new)
            told = looked(GOLDEN, 2, 2, text)
            self.assertEqual(told, faults, (old, new))
            self.assertTrue(plain(told))

    def test_ahead_below_the_look(self):
        text = answered(GOLDEN, 6, 4)
        self.assertEqual(text.split("\n")[0], "table 6 4 1 3")
        self.assertEqual(looked(GOLDEN, 6, 4, text.replace("table 6 4 1", "table 6 4 0")), [("look",)])
        self.assertEqual(looked(GOLDEN, 6, 4, text.replace("table 6 4 1", "table 6 4 2")), [])

    def test_where_a_press_is_told_every_table_has_a_fault(self):
        source = random.Random(81)
        made = [(read_table(text), text) for text in
                [answered(page, n, q) for page, n, q in settings()] if text.startswith("table")]
        for page, n, q in settings():
            if not answered(page, n, q).startswith("press"):
                continue
            for table, text in made:
                if (table.signs(), table.block_length()) == (n, q):
                    self.assertNotEqual(looked(page, n, q, text), [], (page, text))
            if n <= 6:
                rooms = rooms_told(page)
                blocks = ["".join(source.choice(rooms.marks) for mark in range(q)) for again in range(2 * n)]
                for again in range(10):
                    many = source.randint(1, 4)
                    homes = [source.randrange(rooms.many()) for place in range(many)]
                    table = Table("", 0, 5, homes, random_ways(source, many, n, blocks))
                    self.assertNotEqual(looked(page, n, q, table_text(table)), [])


class LookedAtPressesTest(unittest.TestCase):
    def check(self, text, faults, n=2, q=1):
        self.assertEqual(looked(GOLDEN, n, q, text), faults, text)

    def test_numbers_that_show_it(self):
        # Told as they are, as a multiple of these, and others for which what is left is not the same everywhere.
        for text in ("press 3 2", "press 6 4", "press 30 20", "press 5 3", "press 8 5"):
            self.check(text, [])

    def test_a_column_for_which_it_is_not_below(self):
        # 2 times 2 is not above 2 and 2; 2 times 1 is not above 2; and at the edge.
        for text in ("press 2 2", "press 2 1", "press 1 1", "press 1 2", "press 4 2", "press 3 3", "press 100 1"):
            self.check(text, [("press",)])
        self.check("press 3 2", [("press",)], 1)
        self.check("press 3 2", [("press",)], 2, 2)
        self.check("press 1 1", [("press",)], 1)

    def test_nought_among_them(self):
        for text in ("press 0 0", "press 0 2", "press 3 0"):
            self.check(text, [("press",)])
            self.check(text, [("press",)], 64, 1)

    def test_not_as_many_numbers_as_rooms(self):
        for text in ("press", "press ", "press 3", "press 3 2 1", "press 3 2 0", "press  3 2", "press 3  2", "press 3 2 "):
            self.check(text, [("press",)])

    def test_not_one_row(self):
        for text in ("press\n3 2", "press 3\n2", "press 3 2\n", "press 3 2\npress 3 2", "press 3 2\n\n", "press\n"):
            self.check(text, [("press",)])

    def test_numbers_that_are_none(self):
        for text in ("press 03 2", "press 3 02", "press -3 2", "press 3 -2", "press +3 2", "press 3 a", "press 3 2.0",
                     "press 3\t2", "press 3 \u0662", "press 3_0 20", "press 3 2\r", "press three two"):
            self.check(text, [("press",)])

    def test_numbers_of_400_figures_and_of_401(self):
        self.check("press 3" + "0" * 399 + " 2" + "0" * 399, [])
        self.check("press 3" + "0" * 400 + " 2" + "0" * 400, [("press",)])
        self.check("press 12" + "0" * 399 + " 8" + "0" * 399, [("press",)])
        self.check("press 3" + "0" * 5000 + " 2" + "0" * 5000, [("press",)])


class LookedAtCloseTest(unittest.TestCase):
    def setUp(self):
        self.page, self.n, self.q, self.most = self.found()
        self.text = answered(self.page, self.n, self.q, self.most)
        self.rows = self.text.split("\n")

    def found(self):
        """A page of two rooms or more with some rounds, for a most of 4."""
        for page in PAGES:
            for q in (2, 3, 4):
                rooms = rooms_told(page)
                table = block_table(rooms, q)
                for n in range(1, min(most_signs(table), 64) + 1):
                    if rooms.many() > 1 and verdict(table, n, 4)[0] == "close":
                        return (page, n, q, 4)
        self.fail("no page is close")

    def check(self, text, faults=(("close",),), most=4):
        self.assertEqual(looked(self.page, self.n, self.q, text, most), list(faults), text)

    def test_as_it_was_answered(self):
        self.assertEqual(self.rows[0], "close")
        self.assertGreater(len(self.rows), 3)
        self.check(self.text, [])

    def test_looked_at_for_another_most(self):
        for most in (5, 6, 7):
            self.check(self.text, [], most)
        for most in (1, 2, 3, 8, 16, 10 ** 30):
            self.check(self.text, [("close",)], most)
        self.assertEqual(looked(self.page, self.n, self.q, self.text), [("close",)])

    def test_the_first_row_is_not_that_word_alone(self):
        for row in ("close ", "close 1", "close close", "close round"):
            self.check("\n".join([row] + self.rows[1:]))
        self.check(self.text.replace("\n", " "))

    def test_no_row_behind_it(self):
        self.check("close")
        self.check("close\n")

    def test_rows_that_are_no_rounds(self):
        for place in range(1, len(self.rows)):
            row = self.rows[place]
            for other in ("", "round", "rounds" + row[5:], row[6:], row + " ", " " + row, row + " 0", row.rsplit(" ", 1)[0],
                          row.replace("round ", "round  "), row.replace("round ", "round 0"), "press" + row[5:],
                          row.replace("round ", "round -"), row.replace("round ", "round a"), "Round" + row[5:], row + "\t",
                          row.replace("round ", "round " + "1" * 401)):
                self.check("\n".join(self.rows[:place] + [other] + self.rows[place + 1:]))

    def test_numbers_at_first(self):
        many = len(self.rows[1].split(" ")) - 1
        for weight in (0, 1, 2, 3, 5, 8):
            self.check("\n".join(["close", "round" + f" {weight}" * many] + self.rows[2:]))
        table = block_table(rooms_told(self.page), self.q)
        for weights in ([4] * (many - 1) + [3], [2] * many, [8] * many, [0] * many):
            told = rounds(table, self.n, weights)
            self.check("\n".join(["close"] + ["round " + " ".join(str(w) for w in each) for each in told]))

    def test_rounds_that_do_not_follow(self):
        for place in range(1, len(self.rows) - 1):
            self.check("\n".join(self.rows[:place] + self.rows[place + 1:]))
            self.check("\n".join(self.rows[:place + 1] + self.rows[place:]))
        turned = list(self.rows)
        turned[2], turned[3] = turned[3], turned[2]
        self.check("\n".join(turned))

    def test_the_last_round_is_not_noughts_alone(self):
        for many in range(2, len(self.rows)):
            self.check("\n".join(self.rows[:many]))

    def test_noughts_are_shrunk_to_noughts(self):
        self.check(self.text + "\n" + self.rows[-1], [])
        self.check(self.text + "\n")

    def test_where_there_is_a_press(self):
        table = block_table(rooms_told(GOLDEN), 1)
        self.assertIsNotNone(press(table, 2))
        told = rounds(table, 2, [16, 16])
        self.assertEqual(told[-1], [0, 0])
        text = "\n".join(["close"] + [f"round {one} {other}" for one, other in told])
        self.assertEqual(looked(GOLDEN, 2, 1, text), [("close",)])

    def test_small_one(self):
        text = "close\nround 1 1\nround 1 0\nround 0 0"
        self.assertEqual(looked(GOLDEN, 6, 4, text, 1), [])
        self.assertEqual(looked(GOLDEN, 6, 4, text, most=1), [])
        self.assertEqual(looked(GOLDEN, 6, 4, text, 2), [("close",)])
        self.assertEqual(looked(GOLDEN, 5, 4, text, 1), [("close",)])


class WholeWayTest(unittest.TestCase):
    def test_signs_written_by_the_table_keep_the_rules_and_are_read_back(self):
        source = random.Random(82)
        remembered = 0
        for page, n, q in settings():
            text = answered(page, n, q)
            if not text.startswith("table"):
                continue
            self.assertEqual(looked(page, n, q, text), [])
            table = read_table(text)
            rules = read_rules(page)
            rooms = rooms_told(page)
            for length in (0, 1, 20):
                signs = [source.randrange(n) for place in range(length)]
                row = written(table, signs)
                self.assertTrue(rules.keeps(row), (page, n, q))
                self.assertEqual(read(table, row), signs)
                self.assertEqual(len(row), len(table.lead) + q * (length + table.ahead))
                if memory(rooms) is not None:
                    remembered += 1
                    self.assertEqual(read_windows(rooms, table, row), signs)
        self.assertGreater(remembered, 50)

    def test_a_wish_beyond_the_bounds_is_not_refused(self):
        self.assertEqual(answered("marks abcd", 70, 3), answered("marks abcd", 70, 3, 16))
        self.assertEqual(looked("marks abcd", 70, 5, answered("marks abcd", 70, 5)), [])

    def test_asked_twice_the_same_is_told(self):
        for page in PAGES[:6]:
            self.assertEqual(answered(page, 2, 3), answered(page, 2, 3))


if __name__ == "__main__":
    unittest.main()
