import random
import unittest

from grooveway.split import finished
from grooveway.table import Table, look_of, table_of
from grooveway.web import Web
from helpers import look_by_rows, plain, random_ways, told_table, webs_of_rooms


class TableTest(unittest.TestCase):
    def test_values(self):
        table = Table("ab", 1, 2, [3, 4], [[("aa", 0), ("ab", 1), ("bb", 0)], [("ba", 1), ("ab", 0), ("aa", 0)]])
        self.assertEqual((table.lead, table.first, table.ahead, table.homes), ("ab", 1, 2, (3, 4)))
        self.assertEqual(table.ways, ((("aa", 0), ("ab", 1), ("bb", 0)), (("ba", 1), ("ab", 0), ("aa", 0))))
        self.assertEqual((table.signs(), table.block_length()), (3, 2))
        self.assertEqual((Table("", 0, 0, [0], [[("a", 0)]]).signs(), Table("", 0, 0, [0], [[("a", 0)]]).block_length()),
                         (1, 1))

    def test_tuples_of_lists_and_lists_changed_behind_the_call(self):
        homes, ways = [3, 4], [[["a", 0], ["b", 1]], [["b", 1], ["a", 0]]]
        table = Table("", 0, 0, homes, ways)
        self.assertEqual((homes, ways), ([3, 4], [[["a", 0], ["b", 1]], [["b", 1], ["a", 0]]]))
        homes.pop()
        ways[0][0][0] = "z"
        ways[1].append(["c", 0])
        ways.pop()
        self.assertEqual(table.homes, (3, 4))
        self.assertEqual(table.ways, ((("a", 0), ("b", 1)), (("b", 1), ("a", 0))))
        self.assertEqual([type(own) for own in table.ways], [tuple, tuple])
        self.assertEqual([type(way) for own in table.ways for way in own], [tuple] * 4)


class LookOfTest(unittest.TestCase):
    def test_nought(self):
        self.assertEqual(look_of((0,), ((("a", 0), ("b", 0)),)), 0)
        self.assertEqual(look_of((0, 1), ((("a", 1), ("b", 0)), (("b", 1), ("a", 0)))), 0)

    def test_one_sign_alone(self):
        self.assertEqual(look_of((0,), ((("a", 0),),)), 0)
        self.assertEqual(look_of((0, 0), ((("a", 0),), (("a", 1),))), 0)

    def test_above_nought(self):
        # One block by two signs, to places that spell unlike blocks.
        self.assertEqual(look_of((0, 1, 2), ((("a", 1), ("a", 2)), (("a", 0), ("b", 0)), (("c", 0), ("d", 0)))), 1)
        ways = ((("a", 1), ("a", 2)), (("a", 3), ("b", 0)), (("a", 4), ("d", 0)), (("a", 0), ("b", 0)),
                (("c", 0), ("d", 0)))
        self.assertEqual(look_of((0, 1, 2, 3, 4), ways), 2)

    def test_a_long_look(self):
        many = 40
        ways = [[("a", 1), ("a", 2)]]
        for place in range(1, 2 * many - 1, 2):
            ways.append([("a", place + 2), ("b", 0)])
            ways.append([("a", place + 3), ("c", 0)])
        ways.append([("b", 0), ("d", 0)])
        ways.append([("c", 0), ("e", 0)])
        self.assertEqual(look_of(list(range(len(ways))), ways), many)

    def test_none_where_rows_go_on_alike(self):
        self.assertIsNone(look_of((0,), ((("a", 0), ("a", 0)),)))
        self.assertIsNone(look_of((0, 1), ((("a", 1), ("b", 0)), (("a", 0), ("a", 1)))))
        # To one and the same place by one block and two signs.
        self.assertIsNone(look_of((0, 1), ((("a", 1), ("a", 1)), (("a", 0), ("b", 0)))))

    def test_places_of_the_same_home(self):
        ways = ((("a", 0), ("b", 1)), (("b", 0), ("c", 1)))
        self.assertEqual(look_of((0, 1), ways), 0)
        self.assertEqual(look_of((0, 0), ways), look_by_rows((0, 0), ways, 6))
        self.assertIsNone(look_of((0, 0), ways))
        self.assertEqual(look_of((0, 0), ((("a", 0), ("b", 1)), (("a", 1), ("b", 0)))), 0)

    def test_the_same_place_twice_in_a_pair_of_rows(self):
        ways = ((("a", 1), ("a", 2)), (("b", 3), ("c", 3)), (("b", 3), ("d", 3)), (("a", 0), ("b", 0)))
        self.assertIsNone(look_of((0, 1, 2, 3), ways))

    def test_held_against_all_rows(self):
        source = random.Random(31)
        found = []
        for again in range(700):
            many, signs = source.choice(((1, 1), (1, 2), (1, 3), (2, 2), (2, 3), (3, 2), (3, 2), (4, 2), (4, 2), (4, 1)))
            homes = [source.randrange(3) for place in range(many)]
            ways = random_ways(source, many, signs, ["a", "b", "c", "d"])
            look = look_of(homes, ways)
            # Beyond as many ways as there are pairs of places rows go round.
            self.assertEqual(look, look_by_rows(homes, ways, many * (many + 1) // 2))
            found.append(look)
        self.assertTrue({0, 1, 2, None} <= set(found))

    def test_lists_handed_in_stay(self):
        homes, ways = [0, 1], [[("a", 1), ("a", 0)], [("b", 1), ("a", 0)]]
        look_of(homes, ways)
        self.assertEqual((homes, ways), ([0, 1], [[("a", 1), ("a", 0)], [("b", 1), ("a", 0)]]))


class TableOfTest(unittest.TestCase):
    def test_the_first_ways_and_the_least_place_with_the_home(self):
        web = Web([4, 2, 2], [1, 1, 1], [[("a", 0), ("b", 1), ("c", 2)], [("c", 0), ("a", 2), ("b", 1)],
                                         [("b", 1), ("c", 0), ("d", 1)]])
        self.assertEqual(told_table(table_of(web, 2, "xy", 2))[:2], ("xy", 1))
        self.assertEqual(table_of(web, 2, "", 4).first, 0)
        table = table_of(web, 2, "", 4)
        self.assertEqual(table.homes, (4, 2, 2))
        self.assertEqual(table.ways, ((("a", 0), ("b", 1)), (("c", 0), ("a", 2)), (("b", 1), ("c", 0))))

    def test_ahead_is_the_look_of_the_ways_kept(self):
        # The third way alone would need a look.
        web = Web([0], [1], [[("a", 0), ("b", 0), ("b", 0)]])
        self.assertEqual(table_of(web, 2, "", 0).ahead, 0)
        web = Web([0, 1, 2], [1] * 3, [[("a", 1), ("a", 2)], [("a", 0), ("b", 0)], [("c", 0), ("d", 0)]])
        self.assertEqual(table_of(web, 2, "", 0).ahead, 1)
        self.assertEqual(table_of(web, 1, "", 0).ahead, 0)

    def test_what_comes_of_finishing_webs_of_rooms(self):
        aheads = []
        for rooms, q, n, web in webs_of_rooms():
            last = finished(web, n)[-1]
            home = web.homes[-1]
            table = table_of(last, n, "ab", home)
            self.assertEqual((table.lead, table.homes), ("ab", last.homes))
            self.assertEqual(table.ways, tuple(own[:n] for own in last.ways))
            self.assertEqual(table.first, min(place for place in range(last.many()) if last.homes[place] == home))
            self.assertEqual(table.ahead, look_of(table.homes, table.ways))
            self.assertIs(type(table.ahead), int)
            self.assertEqual((table.signs(), table.block_length()), (n, q))
            self.assertTrue(plain(told_table(table)))
            if n ** (table.ahead + 1) < 300:
                self.assertEqual(table.ahead, look_by_rows(table.homes, table.ways, table.ahead))
            aheads.append(table.ahead)
        self.assertTrue({0, 1, 2} <= set(aheads))


if __name__ == "__main__":
    unittest.main()
