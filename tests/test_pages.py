import itertools
import unittest

from grooveway.errors import BadMarks, BadRow, BadRule
from grooveway.pages import number_in, read_rules, rows_of, rule_row, rules_page, signed_in
from grooveway.rules import All, Alike, Gap, Never, Rule, Sum, Turn


def made_of(rule):
    """What a rule is made of, an All's rules too, so that two can be held side by side."""
    if type(rule) is All:
        return (All, rule.marks, [made_of(each) for each in rule.rules_told()])
    return (type(rule), vars(rule))


class RowsTest(unittest.TestCase):
    def test_words_and_numbers_of_rows(self):
        page = "marks ab\n\ngap a 1 any\n   \nnever   bb"
        self.assertEqual(rows_of(page), [(1, ["marks", "ab"]), (3, ["gap", "a", "1", "any"]), (5, ["never", "bb"])])

    def test_blanks_ahead_between_and_behind(self):
        self.assertEqual(rows_of("   a  b    c   "), [(1, ["a", "b", "c"])])

    def test_remarks_say_nothing(self):
        page = "# marks ab\nmarks ab#gap a\n  #\nnever b # no # more\n#"
        self.assertEqual(rows_of(page), [(2, ["marks", "ab"]), (4, ["never", "b"])])

    def test_pages_that_say_nothing(self):
        for page in ("", "\n", " ", "#", "\n\n   \n# marks ab\n"):
            self.assertEqual(rows_of(page), [], page)

    def test_line_ends_at_both_ends_of_a_page(self):
        self.assertEqual(rows_of("\nx\n"), [(2, ["x"])])

    def test_every_other_sign_is_a_word_s(self):
        signs = "".join(chr(code) for code in range(33, 127) if chr(code) not in "#%")
        self.assertEqual(rows_of(signs + " ~"), [(1, [signs, "~"])])

    def test_kinds_and_the_asker_s_own(self):
        page = "x y\nx y"
        told = rows_of(page)
        self.assertEqual([type(told)] + [type(row) for row in told], [list, tuple, tuple])
        self.assertEqual([type(value) for value in told[0]], [int, list])
        told[0][1].append("z")
        self.assertEqual(told[1], (2, ["x", "y"]))
        told.clear()
        self.assertEqual(rows_of(page), [(1, ["x", "y"]), (2, ["x", "y"])])


class NumbersTest(unittest.TestCase):
    def test_each_number_and_signed_number(self):
        for number in range(100):
            self.assertEqual(number_in(str(number)), number)
            self.assertEqual(signed_in(str(number)), number)
            if number > 0:
                self.assertEqual(signed_in("-" + str(number)), -number)
                self.assertIsNone(number_in("-" + str(number)))
        for word in ("0", "7", "10", "99"):
            self.assertIs(type(number_in(word)), int)
            self.assertIs(type(signed_in(word)), int)

    def test_no_other_word_of_up_to_three_signs_writes_one(self):
        signs = [chr(code) for code in range(32, 127)] + ["\t", "\n"]
        numbers = {str(number): number for number in range(100)}
        signed = dict(numbers)
        signed.update({"-" + str(number): -number for number in range(1, 100)})
        for size in range(4):
            for word in itertools.product(signs if size < 3 else "019- +_.\t\nae", repeat=size):
                text = "".join(word)
                self.assertEqual(number_in(text), numbers.get(text), repr(text))
                self.assertEqual(signed_in(text), signed.get(text), repr(text))

    def test_words_that_write_none(self):
        words = ("", "00", "01", "09", "100", "000", "-", "--1", "-0", "-00", "-01", "-100", "+1", "1-", "- 1", " 1",
                 "1 ", "\t1", "1\n", "1_0", "1.", "0x1", "a", "any", "one", "1 1", "-1 ", "1234567890")
        for word in words:
            with self.subTest(word=word):
                self.assertIsNone(number_in(word))
                self.assertIsNone(signed_in(word))


class ReadRulesTest(unittest.TestCase):
    def read_one(self, row, marks="ab"):
        rules = read_rules("marks " + marks + "\n" + row)
        self.assertIs(type(rules), All)
        self.assertEqual(rules.marks, marks)
        self.assertEqual(len(rules.rules_told()), 1)
        return made_of(rules.rules_told()[0])

    def test_each_form_of_row(self):
        self.assertEqual(self.read_one("gap b 1 7"), made_of(Gap("ab", "b", 1, 7)))
        self.assertEqual(self.read_one("gap a 0 any"), made_of(Gap("ab", "a", 0, None)))
        self.assertEqual(self.read_one("never abba"), made_of(Never("ab", "abba")))
        self.assertEqual(self.read_one("sum -8 5 3 -3"), made_of(Sum("ab", (3, -3), -8, 5)))
        self.assertEqual(self.read_one("sum 0 0 1 0 -1", "xyz"), made_of(Sum("xyz", (1, 0, -1), 0, 0)))
        self.assertEqual(self.read_one("turn b 6 5"), made_of(Turn("ab", "b", 6, 5)))
        self.assertEqual(self.read_one("alike 4"), made_of(Alike("ab", 4)))

    def test_a_page_of_marks_alone(self):
        self.assertEqual(made_of(read_rules("\n marks  0z # two\n")), (All, "0z", []))

    def test_rows_in_any_order_and_as_often_as_one_likes(self):
        page = "# a page\n\n  marks ab#\nalike 3\n never bb\nalike  2 # again\n\ngap a 1 any\nalike 3\n"
        rules = [Alike("ab", 3), Never("ab", "bb"), Alike("ab", 2), Gap("ab", "a", 1), Alike("ab", 3)]
        self.assertEqual(made_of(read_rules(page)), made_of(All("ab", rules)))

    def test_words_that_are_names_of_rows(self):
        self.assertEqual(self.read_one("never gap", "gap"), made_of(Never("gap", "gap")))
        self.assertEqual(self.read_one("never any", "any"), made_of(Never("any", "any")))

    def test_what_is_read_goes_along_rows(self):
        rules = read_rules("marks ab\ngap b 1 3\nalike 2")
        self.assertEqual(rules.begin(), (1, (0, 0)))
        self.assertEqual(rules.broken_at("abaaa"), 4)

    def test_two_readings_share_nothing(self):
        one = read_rules("marks ab\nalike 2")
        other = read_rules("marks ab\nalike 2")
        self.assertNotEqual(id(one.rules_told()[0]), id(other.rules_told()[0]))


WRONG_ROWS = (
    "gap", "gap a", "gap a 1", "gap a 1 2 3", "gap a any 1", "gap a 1 -1", "gap a -1 1", "gap a 01 2", "gap a 1 02",
    "gap a 1 none", "gap a x 2", "gap a 1 Any", "gap a 100 any", "gap a 1 100", "gap a 1 any any",
    "never", "never a b", "never # ab",
    "sum", "sum 0", "sum 0 x", "sum x 0", "sum 0 0 1 x", "sum -0 0 1 1", "sum 0 +1 1 1", "sum 0 0 1 -01", "sum 0 any",
    "turn", "turn a", "turn a 2", "turn a 2 1 0", "turn a x 1", "turn a 2 x", "turn a 2 -1", "turn a 2 any",
    "alike", "alike x", "alike 1 2", "alike -1", "alike 01", "alike any",
    "marks ab", "marks", "marks a b", "rule", "Gap a 1 2", "GAP a 1 2", "a", "all", "gap: a 1 2", "gaps a 1 2",
)


class RefusedPagesTest(unittest.TestCase):
    def assert_bad_row(self, page, number):
        with self.assertRaises(BadRow) as caught:
            read_rules(page)
        self.assertIs(type(caught.exception.row), int)
        self.assertEqual(caught.exception.row, number)

    def test_rows_that_are_none_of_the_forms(self):
        for row in WRONG_ROWS:
            with self.subTest(row=row):
                self.assert_bad_row("marks ab\n" + row, 2)
                self.assert_bad_row("#\nmarks ab\nalike 2\n\n " + row + " # so\nalike 2", 5)

    def test_the_first_bad_row_is_told(self):
        self.assert_bad_row("marks ab\nalike 2\nalike\nnever\nmarks ab", 3)
        self.assert_bad_row("marks\nalike", 1)

    def test_the_first_row_that_says_something_is_the_marks_row(self):
        for row in ("marks", "marks a b", "marks ab cd", "Marks ab", "alike 2", "ab", "nonsense", "mark ab"):
            with self.subTest(row=row):
                self.assert_bad_row(row, 1)
                self.assert_bad_row("\n# so\n" + row + "\nmarks ab\nnever", 3)

    def test_a_second_marks_row(self):
        self.assert_bad_row("marks ab\nalike 2\nmarks ab", 3)
        self.assert_bad_row("marks ab\n\nmarks ba\nalike", 3)

    def test_a_page_on_which_no_row_says_anything(self):
        for page in ("", "\n\n\n", "   ", "# marks ab", "\n #\n   \n"):
            self.assert_bad_row(page, 1)

    def test_a_bad_row_goes_ahead_of_bad_marks_and_a_bad_rule(self):
        self.assert_bad_row("marks a\nalike", 2)
        self.assert_bad_row("marks a\nalike 9\nalike 2\nalike x", 4)
        self.assert_bad_row("marks ab\ngap c 1 2\nnever", 3)
        self.assert_bad_row("marks ab\n" + "alike 2\n" * 7 + "alike", 9)

    def test_bad_marks_go_ahead_of_a_bad_rule(self):
        for marks in ("a", "aa", "abcde", "AB", "a-", "marks"):
            for rows in ("", "\nalike 2", "\nalike 0", "\ngap a 9 0\nnever -", "\nalike 2" * 7, "\nsum 9 -9"):
                with self.subTest(marks=marks, rows=rows):
                    self.assertRaises(BadMarks, read_rules, "marks " + marks + rows)

    def test_rules_refused_where_all_rows_are_so(self):
        rows = ("gap c 1 2", "gap ab 1 2", "gap a 9 any", "gap a 3 2", "gap a 0 9", "gap any 0 any", "never c",
                "never abababa", "never a-b", "sum 0 0", "sum 0 0 1", "sum 0 0 1 1 1", "sum 0 0 4 0", "sum -9 0 0 0",
                "sum 1 0 0 0", "sum 0 9 0 0", "sum 0 -1 0 0", "sum -99 99 -99 99", "turn c 2 0", "turn a 0 0",
                "turn a 7 0", "turn a 2 2", "alike 0", "alike 7", "alike 99")
        for row in rows:
            with self.subTest(row=row):
                self.assertRaises(BadRule, read_rules, "marks ab\n" + row)
                self.assertRaises(BadRule, read_rules, "marks ab\nalike 2\n" + row + "\nalike 2\n")

    def test_at_most_six_rules(self):
        self.assertEqual(len(read_rules("marks ab" + "\nalike 2" * 6).rules_told()), 6)
        self.assertRaises(BadRule, read_rules, "marks ab" + "\nalike 2" * 7)


class WriteRulesTest(unittest.TestCase):
    def test_rows(self):
        self.assertEqual(rule_row(Gap("ab", "b", 1, 7)), "gap b 1 7")
        self.assertEqual(rule_row(Gap("ab", "a", 8)), "gap a 8 any")
        self.assertEqual(rule_row(Gap("ab", "a", 0, 0)), "gap a 0 0")
        self.assertEqual(rule_row(Never("ab", "abba")), "never abba")
        self.assertEqual(rule_row(Sum("abc", (1, 0, -3), -8, 0)), "sum -8 0 1 0 -3")
        self.assertEqual(rule_row(Turn("01", "1", 6, 5)), "turn 1 6 5")
        self.assertEqual(rule_row(Alike("ab", 6)), "alike 6")

    def test_what_has_no_row(self):
        self.assertRaises(BadRule, rule_row, Rule("ab"))
        self.assertRaises(BadRule, rule_row, All("ab", []))
        self.assertRaises(BadRule, rule_row, All("ab", [Alike("ab", 1)]))
        self.assertRaises(BadRule, rules_page, All("ab", [Rule("ab")]))
        self.assertRaises(BadRule, rules_page, All("ab", [Alike("ab", 1), Rule("ab"), Alike("ab", 1)]))

    def test_a_page(self):
        rules = [Never("01", "11"), Gap("01", "1", 1), Alike("01", 3)]
        self.assertEqual(rules_page(All("01", rules)), "marks 01\nnever 11\ngap 1 1 any\nalike 3")
        self.assertEqual(rules_page(All("z0a9", [])), "marks z0a9")

    def test_what_is_written_is_read_as_the_same(self):
        for marks in ("ab", "ba", "9x0", "any", "gap", "dcba"):
            rules = [Never(marks, marks[0]), Never(marks, marks[1] * 6), Alike(marks, 1), Alike(marks, 6)]
            rules += [Gap(marks, mark, least, most) for mark in marks for least, most in
                      ((0, None), (8, None), (0, 0), (0, 8), (8, 8), (2, 5))]
            rules += [Turn(marks, mark, every, at) for mark in marks for every, at in ((1, 0), (6, 0), (6, 5))]
            rules += [Sum(marks, (worth,) * len(marks), low, high) for worth in range(-3, 4) for low in range(-8, 1)
                      for high in range(9)]
            for start in range(len(rules)):
                one = All(marks, rules[start:start + 6])
                page = rules_page(one)
                self.assertEqual(made_of(read_rules(page)), made_of(one))
                self.assertEqual(rules_page(read_rules(page)), page)

    def test_writing_changes_nothing(self):
        one = All("ab", [Sum("ab", (1, -1), -1, 1), Alike("ab", 2)])
        ahead = made_of(one)
        self.assertEqual(rules_page(one), rules_page(one))
        self.assertEqual(made_of(one), ahead)


if __name__ == "__main__":
    unittest.main()
