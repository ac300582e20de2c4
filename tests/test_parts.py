import copy
import itertools
import random
import unittest

from grooveway.parts import closed_part, lead_to, tied_parts
from grooveway.rooms import Rooms, living, rooms_of
from grooveway.rules import Alike, Gap
from grooveway.weights import bears, most_signs, verdict
from helpers import lists_in, living_rooms, rows_up_to, walk

# 0 leads to 1, 1 and 2 to each other, 2 to 3, 3 to itself, 4 to all and to none back.
TABLE = [[0, 1, 0, 0, 0], [0, 0, 2, 0, 0], [0, 1, 0, 1, 0], [0, 0, 0, 3, 0], [1, 1, 1, 1, 0]]


def leads(table, among, one, other):
    """Whether ways among these lead from the one to the other, or they are the same; told by closing all ways."""
    reach = {(a, b) for a in among for b in among if a == b or table[a][b] > 0}
    for middle, a, b in itertools.product(among, repeat=3):
        if (a, middle) in reach and (middle, b) in reach:
            reach.add((a, b))
    return (one, other) in reach


def random_tables(seed, many):
    source = random.Random(seed)
    for again in range(many):
        size = source.randint(1, 6)
        yield [[source.choice((0, 0, 0, 1, 2)) for column in range(size)] for row in range(size)]


class TiedPartsTest(unittest.TestCase):
    def test_among_all(self):
        self.assertEqual(tied_parts(TABLE, [0, 1, 2, 3, 4]), [[0], [1, 2], [3], [4]])

    def test_rooms_that_are_tied_with_none_other(self):
        self.assertEqual(tied_parts([[0, 0], [0, 0]], [0, 1]), [[0], [1]])
        self.assertEqual(tied_parts([[0]], [0]), [[0]])

    def test_among_some(self):
        self.assertEqual(tied_parts(TABLE, [1, 3]), [[1], [3]])
        self.assertEqual(tied_parts(TABLE, [2]), [[2]])
        self.assertEqual(tied_parts(TABLE, []), [])

    def test_ways_that_leave_among_and_come_back_do_not_tie(self):
        ring = [[0, 1, 0, 0], [0, 0, 1, 0], [0, 0, 0, 1], [1, 0, 0, 0]]
        self.assertEqual(tied_parts(ring, [0, 1, 2, 3]), [[0, 1, 2, 3]])
        self.assertEqual(tied_parts(ring, [0, 1, 2]), [[0], [1], [2]])
        both = [[0, 1, 1], [1, 0, 0], [1, 0, 0]]
        self.assertEqual(tied_parts(both, [1, 2]), [[1], [2]])

    def test_by_their_least_rooms(self):
        table = [[0, 0, 0, 1], [0, 0, 1, 0], [0, 1, 0, 0], [1, 0, 0, 0]]
        self.assertEqual(tied_parts(table, [0, 1, 2, 3]), [[0, 3], [1, 2]])

    def test_held_against_the_point(self):
        source = random.Random(2)
        for table in random_tables(1, 150):
            among = [room for room in range(len(table)) if source.random() < 0.8]
            parts = tied_parts(table, among)
            self.assertEqual(sorted(sum(parts, [])), among)
            self.assertEqual(parts, sorted(sorted(part) for part in parts))
            for one in among:
                part = [part for part in parts if one in part][0]
                tied = [other for other in among
                        if leads(table, among, one, other) and leads(table, among, other, one)]
                self.assertEqual(part, tied)

    def test_what_is_handed_in_stays_and_what_is_told_is_the_askers_own(self):
        table, among = copy.deepcopy(TABLE), [0, 1, 2, 3, 4]
        told = tied_parts(table, among)
        self.assertEqual((table, among), (TABLE, [0, 1, 2, 3, 4]))
        self.assertEqual(len(set(lists_in([told, among]))), 7)
        told[1].clear()
        self.assertEqual(tied_parts(table, among), [[0], [1, 2], [3], [4]])


class ClosedPartTest(unittest.TestCase):
    def test_all_rooms_tied(self):
        self.assertEqual(closed_part([[1, 1], [1, 0]], [1, 1]), [0, 1])
        self.assertEqual(closed_part([[3]], [5]), [0])

    def test_a_part_from_which_a_way_leads_out_is_not_closed(self):
        self.assertEqual(closed_part([[2, 1], [0, 2]], [1, 1]), [1])
        self.assertEqual(closed_part([[2, 0], [1, 2]], [1, 1]), [0])

    def test_ways_to_rooms_without_weight_do_not_count(self):
        self.assertEqual(closed_part([[2, 1], [0, 0]], [1, 0]), [0])
        self.assertEqual(closed_part([[2, 5, 1], [0, 0, 0], [0, 5, 2]], [1, 0, 1]), [2])

    def test_the_first_of_several(self):
        self.assertEqual(closed_part([[2, 0, 0], [0, 2, 0], [0, 0, 2]], [1, 1, 1]), [0])
        self.assertEqual(closed_part([[2, 0, 0], [0, 2, 0], [0, 0, 2]], [0, 3, 1]), [1])
        self.assertEqual(closed_part([[1, 1, 1, 0], [0, 0, 0, 2], [0, 0, 2, 0], [0, 2, 0, 0]], [1, 1, 1, 1]), [1, 3])

    def test_the_weights_still_bear_with_all_others_made_nought(self):
        tried = 0
        for table in random_tables(3, 300):
            for n in range(1, most_signs(table) + 1):
                kind, weights = verdict(table, n, 64)
                if kind == "weights":
                    tried += 1
                    before = list(weights)
                    part = closed_part(table, weights)
                    self.assertEqual(weights, before)
                    among = [room for room, weight in enumerate(weights) if weight > 0]
                    closed = [each for each in tied_parts(table, among)
                              if not any(table[one][other] for one in each for other in among if other not in each)]
                    self.assertEqual(part, closed[0])
                    fewer = [weight if room in part else 0 for room, weight in enumerate(weights)]
                    self.assertTrue(any(fewer))
                    self.assertTrue(bears(table, n, fewer))
        self.assertGreater(tried, 100)


class LeadToTest(unittest.TestCase):
    def setUp(self):
        self.rooms = Rooms("ba", [[1, 2], [3, 0], [4, 3], [3, 5], [None, 4], [5, None]])

    def test_room_nought_in_the_part(self):
        self.assertEqual(lead_to(self.rooms, [0]), ("", 0))
        self.assertEqual(lead_to(self.rooms, [0, 1, 2]), ("", 0))

    def test_the_shortest_row_and_of_these_the_first_in_order(self):
        self.assertEqual(lead_to(self.rooms, [1, 2]), ("b", 1))
        self.assertEqual(lead_to(self.rooms, [2]), ("a", 2))
        self.assertEqual(lead_to(self.rooms, [3]), ("bb", 3))
        self.assertEqual(lead_to(self.rooms, [3, 4]), ("bb", 3))
        self.assertEqual(lead_to(self.rooms, [4, 5]), ("ab", 4))
        self.assertEqual(lead_to(self.rooms, [5]), ("bba", 5))

    def test_the_order_is_that_of_the_marks_and_not_of_the_rooms(self):
        self.assertEqual(lead_to(Rooms("ba", [[2, 1], [1, 1], [2, 2]]), [1, 2]), ("b", 2))
        self.assertEqual(lead_to(Rooms("ab", [[2, 1], [1, 1], [2, 2]]), [1, 2]), ("a", 2))

    def test_held_against_rows_one_by_one(self):
        source = random.Random(4)
        for rooms in living_rooms() + [living(rooms_of(Alike("ab", 4))), living(rooms_of(Gap("ab", "b", 2, 4)))]:
            for again in range(4):
                part = sorted(source.sample(range(rooms.many()), source.randint(1, rooms.many())))
                before = list(part)
                rows = (row for row in rows_up_to(rooms.marks, 8 if len(rooms.marks) == 2 else 5)
                        if walk(rooms, 0, row) in part)
                row = next(rows)
                told = lead_to(rooms, part)
                self.assertEqual(told, (row, walk(rooms, 0, row)))
                self.assertIs(type(told), tuple)
                self.assertEqual(part, before)


if __name__ == "__main__":
    unittest.main()
