import unittest

from grooveway.errors import BadMark, Nothing, TooLarge
from grooveway.rooms import Rooms, living, rooms_of
from grooveway.rules import All, Alike, Gap, Never, Rule, Sum, Turn
from helpers import MIXED, can_walk, plain, rows_up_to, rules_of_every_kind, living_rooms, walk


class Ring(Rule):
    """Any mark leads to the next of so many states, and from the last to the first."""

    def __init__(self, marks, many):
        Rule.__init__(self, marks)
        self.all_states = many

    def step(self, state, mark):
        return (state + 1) % self.all_states


def states_found(rule):
    """The states in the order of their numbers: by the shortest rows that lead to them, and of these the first ones."""
    order = [rule.begin()]
    for state in order:
        for mark in rule.marks:
            after = rule.step(state, mark)
            if after is not None and after not in order:
                order.append(after)
    return order


def room_lives(rooms, room):
    """Rows as long as there are rooms go round somewhere, and so can be made as long as one likes."""
    reached = {room}
    for place in range(len(rooms.ways)):
        reached = {to for one in reached for to in rooms.ways[one] if to is not None}
    return len(reached) > 0


class RoomsTest(unittest.TestCase):
    def setUp(self):
        self.rooms = Rooms("ba", [[1, None], [1, 0], [None, None]])

    def test_values(self):
        self.assertEqual(self.rooms.marks, "ba")
        self.assertEqual(self.rooms.ways, ((1, None), (1, 0), (None, None)))
        self.assertIs(type(self.rooms.ways), tuple)
        self.assertEqual([type(own) for own in self.rooms.ways], [tuple] * 3)
        self.assertEqual(self.rooms.many(), 3)
        self.assertEqual(Rooms("ab", ((0, 0),)).many(), 1)

    def test_led(self):
        self.assertEqual([self.rooms.led(0, "b"), self.rooms.led(0, "a")], [1, None])
        self.assertEqual([self.rooms.led(1, "b"), self.rooms.led(1, "a")], [1, 0])
        self.assertEqual([self.rooms.led(2, "b"), self.rooms.led(2, "a")], [None, None])

    def test_walked(self):
        for room, row, end in ((0, "b", 1), (0, "bba", 0), (0, "a", None), (1, "aa", None), (1, "aab", None),
                               (1, "abab", 1), (2, "b", None)):
            self.assertEqual(self.rooms.walked(room, row), end, (room, row))

    def test_the_empty_row_leads_to_where_one_is(self):
        self.assertEqual([self.rooms.walked(room, "") for room in (0, 1, 2)], [0, 1, 2])

    def test_a_text_that_is_not_just_one_mark_leads_nowhere(self):
        for mark in ("", "ab", "ba", "bb", "c", "B", " ", "b ", "\n"):
            for room in (0, 1, 2):
                with self.subTest(mark=mark, room=room), self.assertRaises(BadMark):
                    self.rooms.led(room, mark)

    def test_a_sign_that_is_no_mark_ahead_of_a_broken_way_and_behind_it(self):
        for room, row in ((0, "x"), (0, "bx"), (1, "ax"), (0, "xa"), (1, "ax" + "a"), (0, "b a"), (2, "x")):
            with self.subTest(room=room, row=row), self.assertRaises(BadMark):
                self.rooms.walked(room, row)
        for room, row in ((0, "ax"), (1, "aax"), (2, "bx"), (0, "baa ?")):
            self.assertIsNone(self.rooms.walked(room, row), (room, row))

    def test_lists_handed_in_are_not_kept_and_not_changed(self):
        ways = [[1, None], [1, 0]]
        rooms = Rooms("ab", ways)
        self.assertEqual(ways, [[1, None], [1, 0]])
        ways[0][0] = 0
        ways[1].clear()
        ways.append([0, 0])
        self.assertEqual(rooms.ways, ((1, None), (1, 0)))
        self.assertEqual((rooms.many(), rooms.led(0, "a"), rooms.walked(0, "ab")), (2, 1, 0))


class RoomsOfTest(unittest.TestCase):
    def test_numbers_as_they_are_found(self):
        self.assertEqual(rooms_of(Alike("ab", 2)).ways, ((1, 2), (3, 2), (1, 4), (None, 2), (1, None)))
        self.assertEqual(rooms_of(Gap("ab", "b", 1, 2)).ways, ((1, 2), (None, 2), (0, None)))
        self.assertEqual(rooms_of(Gap("ba", "b", 1, 2)).ways, ((1, 2), (None, 0), (1, None)))
        self.assertEqual(rooms_of(Sum("ab", (1, -1), -1, 1)).ways, ((1, 2), (None, 0), (0, None)))
        self.assertEqual(rooms_of(Turn("ab", "b", 3, 1)).ways, ((1, None), (2, 2), (0, None)))
        self.assertEqual(rooms_of(Never("ab", "aab")).ways, ((1, 0), (2, 0), (2, None)))
        self.assertEqual(rooms_of(Rule("abc")).ways, ((0, 0, 0),))
        self.assertEqual(rooms_of(All("ab", [])).ways, ((0, 0),))
        both = All("ab", [Turn("ab", "b", 2, 1), Alike("ab", 1)])
        self.assertEqual(rooms_of(both).ways, ((1, None), (None, 2), (1, None)))

    def test_rooms_of_every_kind_are_the_states_that_are_found(self):
        for rule in rules_of_every_kind():
            rooms = rooms_of(rule)
            order = states_found(rule)
            ways = []
            for state in order:
                ends = [rule.step(state, mark) for mark in rule.marks]
                ways.append(tuple(None if end is None else order.index(end) for end in ends))
            self.assertEqual(rooms.ways, tuple(ways))
            self.assertEqual(rooms.marks, rule.marks)
            self.assertTrue(plain(rooms.ways))

    def test_rows_can_be_walked_just_where_they_keep_the_rule(self):
        for rule in rules_of_every_kind():
            rooms = rooms_of(rule)
            for row in rows_up_to(rule.marks, 7 if len(rule.marks) == 2 else 4):
                self.assertIs(rooms.walked(0, row) is not None, rule.keeps(row), row)

    def test_as_many_rooms_as_the_most_and_one_more(self):
        for rule in rules_of_every_kind():
            many = rooms_of(rule).many()
            self.assertEqual(rooms_of(rule, many).many(), many)
            self.assertEqual(rooms_of(rule, many + 1).many(), many)
            if many > 1:
                self.assertRaises(TooLarge, rooms_of, rule, many - 1)
                self.assertRaises(TooLarge, rooms_of, rule, most=1)

    def test_the_most_left_out_is_sixty(self):
        exact = All("abcd", [Turn("abcd", "a", 6, 0), Turn("abcd", "b", 5, 0), Sum("abcd", (0, 0, 1, -1), 0, 1)])
        self.assertEqual(rooms_of(exact).many(), 60)
        self.assertRaises(TooLarge, rooms_of, exact, 59)
        more = All("abcd", [Turn("abcd", "a", 6, 0), Turn("abcd", "b", 5, 0), Sum("abcd", (0, 0, 1, -1), 0, 2)])
        self.assertRaises(TooLarge, rooms_of, more)
        self.assertEqual(rooms_of(more, 90).many(), 90)
        self.assertEqual(rooms_of(Ring("ab", 60)).many(), 60)
        self.assertRaises(TooLarge, rooms_of, Ring("ab", 61))
        self.assertEqual(rooms_of(Ring("ab", 61), 61).many(), 61)

    def test_states_without_an_end_are_too_many(self):
        self.assertRaises(TooLarge, rooms_of, Ring("ab", 10 ** 9))


class LivingTest(unittest.TestCase):
    def test_rooms_that_die_and_rooms_that_can_not_be_come_to(self):
        rooms = living(MIXED)
        self.assertEqual(rooms.marks, "ab")
        self.assertEqual(rooms.ways, ((1, 2), (0, None), (0, None)))

    def test_rooms_that_are_come_to_only_over_those_that_die(self):
        rooms = Rooms("ab", [[0, 1], [2, 2], [None, None], [3, 3]])
        self.assertEqual(living(rooms).ways, ((0, None),))

    def test_numbering_anew(self):
        rooms = Rooms("abc", [[None, 3, 2], [1, 1, 1], [2, 0, None], [4, None, None], [4, 2, 5], [None, None, None]])
        self.assertEqual(living(rooms).ways, ((None, 1, 2), (3, None, None), (2, 0, None), (3, 2, None)))

    def test_a_first_room_that_does_not_live(self):
        for ways in ([[None, None]], [[1, None], [None, None]], [[1, 1], [2, None], [None, 3], [None, None]],
                     [[1, None], [None, None], [2, 2]], [[None, None], [0, 1]]):
            with self.subTest(ways=ways), self.assertRaises(Nothing):
                living(Rooms("ab", ways))
        self.assertRaises(Nothing, living, rooms_of(All("ab", [Gap("ab", "b", 2, 2), Alike("ab", 1)])))
        self.assertRaises(Nothing, living, rooms_of(Sum("ab", (1, 2), 0, 8)))

    def test_a_room_that_leads_to_itself_lives(self):
        self.assertEqual(living(Rooms("ab", [[None, 0]])).ways, ((None, 0),))

    def test_held_against_rows(self):
        for rule in rules_of_every_kind():
            rooms = rooms_of(rule)
            lives = [room_lives(rooms, room) for room in range(rooms.many())]
            alive = living(rooms)
            for row in rows_up_to(rule.marks, 6 if len(rule.marks) == 2 else 4):
                end = walk(rooms, 0, row)
                self.assertEqual(can_walk(alive, 0, row), end is not None and lives[end], row)

    def test_living_rooms_stay_as_they_are(self):
        for rooms in living_rooms():
            again = living(rooms)
            self.assertEqual((again.marks, again.ways), (rooms.marks, rooms.ways))
            self.assertTrue(all(room_lives(rooms, room) for room in range(rooms.many())))

    def test_rooms_handed_in_stay(self):
        before = MIXED.ways
        living(MIXED)
        self.assertEqual(MIXED.ways, before)
        self.assertEqual(MIXED.many(), 6)


if __name__ == "__main__":
    unittest.main()
