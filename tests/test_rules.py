import itertools
import unittest

from grooveway.errors import BadMark, BadMarks, BadRule
from grooveway.rules import All, Alike, Gap, Never, Rule, Sum, Turn


def rows_up_to(marks, length):
    for size in range(length + 1):
        for signs in itertools.product(marks, repeat=size):
            yield "".join(signs)


def states_along(rule, row):
    """The state at the beginning and behind each mark, up to the first None."""
    states = [rule.begin()]
    for mark in row:
        states.append(rule.step(states[-1], mark))
        if states[-1] is None:
            break
    return states


# What the document says of whole rows, said anew for a whole row at once: the state behind
# the row, or None where the row breaks the rule.


def gap_state(rule, row):
    other = [mark for mark in rule.marks if mark != rule.mark][0]
    pieces = (rule.mark + other * rule.least + row).split(rule.mark)[1:]
    most = 10 ** 6 if rule.most is None else rule.most
    if any(not rule.least <= len(piece) <= most for piece in pieces[:-1]) or len(pieces[-1]) > most:
        return None
    return min(len(pieces[-1]), rule.least) if rule.most is None else len(pieces[-1])


def never_state(rule, row):
    if rule.word in row:
        return None
    return max(size for size in range(len(rule.word)) if row.endswith(rule.word[:size]))


def sum_state(rule, row):
    worths = dict(zip(rule.marks, rule.worths))
    sums = list(itertools.accumulate((worths[mark] for mark in row), initial=0))
    return None if min(sums) < rule.low or max(sums) > rule.high else sums[-1]


def turn_state(rule, row):
    if any(mark == rule.mark and place % rule.every != rule.at for place, mark in enumerate(row)):
        return None
    return len(row) % rule.every


def alike_state(rule, row):
    runs = [(rule.marks.index(mark), len(list(run))) for mark, run in itertools.groupby(row)]
    if any(many > rule.most for number, many in runs):
        return None
    return runs[-1] if runs else (0, 0)


def all_state(rule, row):
    states = tuple(state_of(each, row) for each in rule.rules_told())
    return None if None in states else states


def plain_state(rule, row):
    return 0


def state_of(rule, row):
    told = {Rule: plain_state, Gap: gap_state, Never: never_state, Sum: sum_state,
            Turn: turn_state, Alike: alike_state, All: all_state}
    return told[type(rule)](rule, row)


def broken_at_of(rule, row):
    for place in range(len(row)):
        if state_of(rule, row[:place + 1]) is None:
            return place
    return None


def some_rules():
    for marks in ("ab", "ba", "a0z"):
        yield Rule(marks)
        for mark in marks:
            for least, most in ((0, None), (1, None), (3, None), (0, 0), (0, 1), (1, 1), (1, 3), (2, 4)):
                yield Gap(marks, mark, least, most)
            for every, at in ((1, 0), (2, 0), (2, 1), (3, 2), (6, 5)):
                yield Turn(marks, mark, every, at)
        for word in ("0", "01", "00", "010", "001", "0010", "010010", "000000", "110111"):
            yield Never(marks, word.replace("0", marks[0]).replace("1", marks[1]))
        for most in (1, 2, 6):
            yield Alike(marks, most)
        for worths, low, high in (((1, -1, 0), -1, 1), ((3, -3, 1), -8, 8), ((1, 2, -1), 0, 8), ((0, -1, 0), -2, 0)):
            yield Sum(marks, worths[:len(marks)], low, high)
        yield All(marks, [])
        yield All(marks, [Rule(marks), Never(marks, marks[:2] * 2)])
        yield All(marks, [Alike(marks, 3), Gap(marks, marks[1], 1, 4), Turn(marks, marks[0], 2, 0)])
        yield All(marks, [Turn(marks, marks[0], 2, 0), Alike(marks, 3), Gap(marks, marks[1], 1, 4)])


def plain_kinds(state):
    """A state as it may be told: a plain whole number, or a tuple of such."""
    return type(state) is int or type(state) is tuple and all(plain_kinds(each) for each in state)


class EveryRowTest(unittest.TestCase):
    def test_states_and_breaks_are_as_told_of_whole_rows(self):
        for rule in some_rules():
            with self.subTest(kind=type(rule).__name__, made=vars(rule)):
                for row in rows_up_to(rule.marks, 7 if len(rule.marks) == 2 else 6):
                    place = broken_at_of(rule, row)
                    self.assertEqual(rule.broken_at(row), place, row)
                    self.assertIs(rule.keeps(row), place is None, row)
                    kept = row if place is None else row[:place]
                    states = [state_of(rule, kept[:size]) for size in range(len(kept) + 1)]
                    self.assertEqual(states_along(rule, row), states + [None] * (place is not None), row)

    def test_states_and_places_are_plain_whole_numbers_and_tuples(self):
        for rule in some_rules():
            for row in rows_up_to(rule.marks, 3):
                states = states_along(rule, row)
                self.assertTrue(all(state is None or plain_kinds(state) for state in states), (vars(rule), states))
                self.assertIn(type(rule.broken_at(row)), (int, type(None)))


class PlainRuleTest(unittest.TestCase):
    def test_it_is_broken_by_nothing_and_its_state_is_nought(self):
        rule = Rule("ab")
        self.assertEqual(rule.marks, "ab")
        self.assertEqual(states_along(rule, "abba"), [0, 0, 0, 0, 0])
        self.assertIsNone(rule.broken_at("aaaaaaaaaabbbbbbbbbb"))
        self.assertIs(rule.keeps(""), True)


class GapTest(unittest.TestCase):
    def test_values(self):
        rule = Gap("01", "1", 2, 7)
        self.assertEqual((rule.marks, rule.mark, rule.least, rule.most), ("01", "1", 2, 7))
        self.assertIsNone(Gap("01", "1", 2).most)

    def test_states_with_a_most(self):
        rule = Gap("01", "1", 1, 3)
        self.assertEqual(states_along(rule, "1010001"), [1, 0, 1, 0, 1, 2, 3, 0])
        self.assertEqual(states_along(rule, "11"), [1, 0, None])
        self.assertEqual(states_along(rule, "10000"), [1, 0, 1, 2, 3, None])

    def test_one_mark_and_least_others_are_as_if_ahead(self):
        self.assertEqual(Gap("01", "1", 1, 3).broken_at("000"), 2)
        self.assertEqual(Gap("01", "1", 2, 2).broken_at("0"), 0)
        self.assertIs(Gap("01", "1", 2, 2).keeps("1001"), True)

    def test_without_a_most_the_state_grows_to_least(self):
        rule = Gap("01", "1", 2)
        self.assertEqual(states_along(rule, "00010001"), [2, 2, 2, 2, 0, 1, 2, 2, 0])
        self.assertEqual(rule.broken_at("1000101"), 6)
        self.assertIs(rule.keeps("1" + "0" * 100), True)

    def test_all_other_marks_count(self):
        self.assertEqual(states_along(Gap("xyz", "y", 2, 3), "yxzyz"), [2, 0, 1, 2, 0, 1])

    def test_bounds(self):
        for least in (0, 8):
            self.assertEqual(Gap("ab", "a", least).least, least)
            self.assertEqual(Gap("ab", "a", least, least).most, least)
            self.assertEqual(Gap("ab", "a", least, 8).most, 8)
        for least, most in ((-1, None), (9, None), (-1, 3), (9, 9), (0, -1), (3, 2), (0, 9), (8, 9), (8, 7)):
            with self.subTest(least=least, most=most), self.assertRaises(BadRule):
                Gap("ab", "a", least, most)

    def test_a_mark_that_is_none(self):
        for mark in ("c", "", "ab", "b ", "A"):
            with self.subTest(mark=mark), self.assertRaises(BadRule):
                Gap("ab", mark, 0)


class NeverTest(unittest.TestCase):
    def test_values_and_states(self):
        rule = Never("ab", "aab")
        self.assertEqual((rule.marks, rule.word), ("ab", "aab"))
        self.assertEqual(states_along(rule, "baaab"), [0, 0, 1, 2, 2, None])

    def test_the_state_falls_back_to_the_longest_beginning(self):
        self.assertEqual(states_along(Never("ab", "abaabb"), "abaaba"), [0, 1, 2, 3, 4, 5, 3])
        self.assertEqual(states_along(Never("ab", "aaa"), "aabaa"), [0, 1, 2, 0, 1, 2])

    def test_a_word_of_one_sign(self):
        self.assertEqual(states_along(Never("abc", "c"), "abac"), [0, 0, 0, 0, None])

    def test_bounds(self):
        for word in ("a", "ababab"):
            self.assertEqual(Never("ab", word).word, word)
        for word in ("", "abababa", "c", "abc", "cab", "a b"):
            with self.subTest(word=word), self.assertRaises(BadRule):
                Never("ab", word)


class SumTest(unittest.TestCase):
    def test_values_and_states(self):
        rule = Sum("abc", (1, -2, 0), -2, 1)
        self.assertEqual((rule.marks, rule.worths, rule.low, rule.high), ("abc", (1, -2, 0), -2, 1))
        self.assertEqual(states_along(rule, "acbaab"), [0, 1, 1, -1, 0, 1, -1])
        self.assertEqual(rule.broken_at("aa"), 1)
        self.assertEqual(rule.broken_at("bcb"), 2)
        self.assertIs(rule.keeps("b"), True)

    def test_worths_go_by_the_order_of_the_marks(self):
        self.assertEqual(states_along(Sum("ba", (3, -1), -8, 8), "bab"), [0, 3, 2, 5])

    def test_bounds(self):
        self.assertEqual(Sum("ab", (-3, 3), -8, 0).low, -8)
        self.assertEqual(Sum("ab", (3, -3), 0, 8).high, 8)
        self.assertEqual(Sum("ab", (0, 0), 0, 0).worths, (0, 0))
        wrong = [((-4, 0), 0, 0), ((0, 4), 0, 0), ((0,), 0, 0), ((0, 0, 0), 0, 0), ((), 0, 0),
                 ((0, 0), -9, 0), ((0, 0), 1, 8), ((0, 0), 0, -1), ((0, 0), 0, 9)]
        for worths, low, high in wrong:
            with self.subTest(worths=worths, low=low, high=high), self.assertRaises(BadRule):
                Sum("ab", worths, low, high)

    def test_worths_handed_in_as_a_list_are_copied_to_a_tuple(self):
        worths = [1, -1]
        rule = Sum("ab", worths, -1, 1)
        self.assertEqual(worths, [1, -1])
        worths[0] = 3
        worths.append(2)
        self.assertIs(type(rule.worths), tuple)
        self.assertEqual(rule.worths, (1, -1))
        self.assertEqual(states_along(rule, "ab"), [0, 1, 0])


class TurnTest(unittest.TestCase):
    def test_values_and_states(self):
        rule = Turn("ab", "b", 3, 1)
        self.assertEqual((rule.marks, rule.mark, rule.every, rule.at), ("ab", "b", 3, 1))
        self.assertEqual(states_along(rule, "abaaba"), [0, 1, 2, 0, 1, 2, 0])
        self.assertEqual(rule.broken_at("b"), 0)
        self.assertEqual(rule.broken_at("abb"), 2)

    def test_bounds(self):
        self.assertIs(Turn("ab", "b", 1, 0).keeps("bab"), True)
        for at in (0, 5):
            self.assertEqual(Turn("ab", "a", 6, at).at, at)
        for every, at in ((0, 0), (7, 0), (-1, 0), (1, 1), (1, -1), (6, 6), (6, -1), (3, 3)):
            with self.subTest(every=every, at=at), self.assertRaises(BadRule):
                Turn("ab", "a", every, at)

    def test_a_mark_that_is_none(self):
        for mark in ("c", "", "ab", "b ", "B"):
            with self.subTest(mark=mark), self.assertRaises(BadRule):
                Turn("ab", mark, 2, 0)


class AlikeTest(unittest.TestCase):
    def test_values_and_states(self):
        rule = Alike("ab", 2)
        self.assertEqual((rule.marks, rule.most), ("ab", 2))
        self.assertEqual(states_along(rule, "aabba"), [(0, 0), (0, 1), (0, 2), (1, 1), (1, 2), (0, 1)])
        self.assertEqual(states_along(rule, "abbb"), [(0, 0), (0, 1), (1, 1), (1, 2), None])

    def test_marks_are_numbered_by_their_order(self):
        self.assertEqual(states_along(Alike("zya", 1), "azy"), [(0, 0), (2, 1), (0, 1), (1, 1)])

    def test_bounds(self):
        self.assertEqual(Alike("ab", 1).broken_at("aba" + "a"), 3)
        self.assertEqual(Alike("ab", 6).broken_at("b" * 7), 6)
        for most in (0, 7, -1):
            with self.subTest(most=most), self.assertRaises(BadRule):
                Alike("ab", most)


class AllTest(unittest.TestCase):
    def test_states_in_the_order_of_the_rules(self):
        rule = All("ab", [Gap("ab", "b", 1), Alike("ab", 2), Turn("ab", "b", 2, 1)])
        self.assertEqual(states_along(rule, "ab"), [(1, (0, 0), 0), (1, (0, 1), 1), (0, (1, 1), 0)])
        self.assertEqual(rule.broken_at("abaaa"), 4)
        self.assertEqual(rule.broken_at("abb"), 2)

    def test_it_is_broken_where_any_rule_is(self):
        rules = [Never("ab", "bb"), Alike("ab", 3), Sum("ab", (1, 0), 0, 4)]
        for order in itertools.permutations(rules):
            rule = All("ab", list(order))
            self.assertEqual([rule.broken_at(row) for row in ("abb", "aaaa", "aaabab", "aaaba")], [2, 3, None, None])
            self.assertEqual(rule.broken_at("abaaabaa"), 6)

    def test_no_rules_are_broken_by_nothing(self):
        rule = All("ab", [])
        self.assertEqual(states_along(rule, "ab"), [(), (), ()])
        self.assertIs(rule.keeps("abab"), True)
        self.assertEqual(rule.rules_told(), [])

    def test_rules_told_are_the_very_ones_in_a_list_of_the_askers_own(self):
        rules = [Alike("ab", 2), Rule("ab"), Alike("ab", 2)]
        rule = All("ab", rules)
        told = rule.rules_told()
        self.assertIs(type(told), list)
        self.assertEqual([id(each) for each in told], [id(each) for each in rules])
        told.clear()
        self.assertEqual([id(each) for each in rule.rules_told()], [id(each) for each in rules])
        self.assertEqual(rule.begin(), ((0, 0), 0, (0, 0)))

    def test_the_list_handed_in_is_not_kept_and_not_changed(self):
        rules = [Alike("ab", 1)]
        rule = All("ab", rules)
        self.assertEqual(len(rules), 1)
        first = rules.pop()
        rules.extend([Never("ab", "a"), Never("ab", "b")])
        self.assertEqual([id(each) for each in rule.rules_told()], [id(first)])
        self.assertEqual(states_along(rule, "ab"), [((0, 0),), ((0, 1),), ((1, 1),)])

    def test_bounds(self):
        six = [Rule("ab")] * 6
        self.assertEqual(len(All("ab", six).rules_told()), 6)
        wrong = [six + [Rule("ab")], [All("ab", [])], [Rule("ab"), All("ab", [Rule("ab")])],
                 [Rule("ba")], [Rule("ab"), Alike("abc", 1)], [Never("cd", "c")]]
        for rules in wrong:
            with self.subTest(rules=rules), self.assertRaises(BadRule):
                All("ab", rules)


def makers_of_every_kind(marks):
    """A right one and a wrong one of each kind, made of these marks."""
    return [
        (lambda: Rule(marks), None),
        (lambda: Gap(marks, marks[:1], 0), lambda: Gap(marks, "-", 9, 0)),
        (lambda: Never(marks, marks[:1]), lambda: Never(marks, "")),
        (lambda: Sum(marks, (0,) * len(marks), 0, 0), lambda: Sum(marks, (9,), 1, -1)),
        (lambda: Turn(marks, marks[:1], 1, 0), lambda: Turn(marks, "-", 0, 0)),
        (lambda: Alike(marks, 1), lambda: Alike(marks, 0)),
        (lambda: All(marks, []), lambda: All(marks, [All("ab", [])])),
    ]


class MarksTest(unittest.TestCase):
    def test_marks_that_stand(self):
        for marks in ("ab", "ba", "az", "09", "z9a0", "0a1"):
            for right, wrong in makers_of_every_kind(marks):
                self.assertEqual(right().marks, marks)

    def test_bad_marks_ahead_of_bad_rule(self):
        bad = ("", "a", "abcde", "aa", "aba", "abca", "aB", "Zb", "a-", "a b", "a_", "a`", "{a", "0/", ":9",
               "a\n", "#a", "a\u00e9", "a\u00b2", "\u06630", "a\uff42")
        for marks in bad:
            for right, wrong in makers_of_every_kind(marks):
                with self.subTest(marks=marks):
                    self.assertRaises(BadMarks, right)
                    if wrong is not None:
                        self.assertRaises(BadMarks, wrong)

    def test_bad_rule_where_the_marks_stand(self):
        for right, wrong in makers_of_every_kind("abcd"):
            if wrong is not None:
                self.assertRaises(BadRule, wrong)

    def test_true_and_false_are_no_whole_numbers(self):
        makers = [lambda: Gap("ab", "a", False), lambda: Gap("ab", "a", 0, True), lambda: Alike("ab", True),
                  lambda: Sum("ab", (True, 0), 0, 0), lambda: Sum("ab", (0, 0), False, 0),
                  lambda: Sum("ab", (0, 0), 0, True), lambda: Turn("ab", "a", True, 0),
                  lambda: Turn("ab", "a", 2, False)]
        for maker in makers:
            self.assertRaises(BadRule, maker)


class BadMarkTest(unittest.TestCase):
    def rules(self):
        """Of each kind one that the row `ab` keeps."""
        yield Rule("ab")
        yield Gap("ab", "b", 1, 3)
        yield Never("ab", "bb")
        yield Sum("ab", (1, -1), 0, 1)
        yield Turn("ab", "b", 2, 1)
        yield Alike("ab", 1)
        yield All("ab", [])
        yield All("ab", [Alike("ab", 1), Never("ab", "bb")])

    def test_step_takes_just_one_of_the_marks(self):
        for rule in self.rules():
            for mark in ("", "ab", "aa", "c", "A", " ", "a ", "\n"):
                with self.subTest(kind=type(rule).__name__, mark=mark), self.assertRaises(BadMark):
                    rule.step(rule.begin(), mark)

    def test_a_row_with_a_sign_that_is_no_mark(self):
        for rule in self.rules():
            for row in ("x", "ax", "abx", "abxab", "ab ", "abA"):
                with self.subTest(kind=type(rule).__name__, row=row):
                    self.assertRaises(BadMark, rule.broken_at, row)
                    self.assertRaises(BadMark, rule.keeps, row)

    def test_nothing_is_looked_at_behind_the_first_break(self):
        broken = [(Gap("ab", "b", 1), "bbx", 1), (Gap("ab", "b", 0, 1), "aax", 1), (Never("ab", "ab"), "abx", 1),
                  (Sum("ab", (1, -1), 0, 1), "aax", 1), (Turn("ab", "b", 2, 1), "bx", 0),
                  (Alike("ab", 1), "baax", 2), (All("ab", [Rule("ab"), Alike("ab", 1)]), "bbx?", 1)]
        for rule, row, place in broken:
            with self.subTest(kind=type(rule).__name__, row=row):
                self.assertEqual(rule.broken_at(row), place)
                self.assertIs(rule.keeps(row), False)
                self.assertRaises(BadMark, rule.broken_at, row[:place] + "x" + row[place:])


if __name__ == "__main__":
    unittest.main()
