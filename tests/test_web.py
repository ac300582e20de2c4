import unittest

from grooveway.blocks import blocks_from
from grooveway.rooms import Rooms
from grooveway.web import Web, web_bears, web_of
from helpers import bears_in_full, plain, random_webs, tied, told_web, webs_of_rooms

ROOMS = Rooms("ba", [[0, 1], [2, None], [0, 2]])


def all_tuples(told):
    return type(told) in (int, str) or type(told) is tuple and all(all_tuples(each) for each in told)


class WebTest(unittest.TestCase):
    def test_made_of_lists_and_of_tuples(self):
        homes, weights, ways = (4, 4), (1, 2), ((("a", 1),), (("a", 0), ("b", 1)))
        told = [
            Web(homes, weights, ways),
            Web(list(homes), list(weights), [list(own) for own in ways]),
            Web(list(homes), weights, [[list(way) for way in own] for own in ways]),
            Web(homes, weights, (ways[0], [list(way) for way in ways[1]])),
            Web(homes, weights, tuple(tuple(list(way) for way in own) for own in ways)),
            Web(homes, weights, (ways[0], (ways[1][0], list(ways[1][1])))),
        ]
        for web in told:
            self.assertEqual(told_web(web), (homes, weights, ways))
            self.assertTrue(all_tuples(told_web(web)))
            self.assertEqual(web.many(), 2)

    def test_lists_changed_behind_the_call(self):
        homes, weights, ways = [4, 5], [1, 2], [[["a", 1]], [["a", 0], ["b", 1]]]
        web = Web(homes, weights, ways)
        self.assertEqual((homes, weights, ways), ([4, 5], [1, 2], [[["a", 1]], [["a", 0], ["b", 1]]]))
        homes.append(9)
        weights[0] = 9
        ways[0][0][1] = 0
        ways[1].clear()
        ways.pop()
        self.assertEqual(told_web(web), ((4, 5), (1, 2), ((("a", 1),), (("a", 0), ("b", 1)))))
        self.assertEqual(web.many(), 2)


class WebOfTest(unittest.TestCase):
    def test_all_rooms(self):
        web = web_of(ROOMS, 1, [3, 1, 2], [0, 1, 2])
        self.assertEqual(told_web(web), ((0, 1, 2), (3, 1, 2),
                                         ((("b", 0), ("a", 1)), (("b", 2),), (("b", 0), ("a", 2)))))

    def test_ways_that_leave_the_part_are_left_out(self):
        web = web_of(ROOMS, 1, [3, 0, 2], [0, 2])
        self.assertEqual(told_web(web), ((0, 2), (3, 2), ((("b", 0),), (("b", 0), ("a", 1)))))
        web = web_of(ROOMS, 2, [0, 4, 5], [1, 2])
        self.assertEqual(told_web(web), ((1, 2), (4, 5), ((("ba", 1),), (("ba", 0), ("aa", 1)))))

    def test_the_order_of_the_blocks(self):
        web = web_of(ROOMS, 2, [1, 1, 1], [0])
        self.assertEqual(web.ways, ((("bb", 0),),))
        web = web_of(ROOMS, 3, [1, 1, 1], [2])
        self.assertEqual(web.ways, ((("bab", 0), ("aaa", 0)),))

    def test_held_against_the_blocks(self):
        for rooms, q, n, web in webs_of_rooms():
            part = list(web.homes)
            again = web_of(rooms, q, [web.weights[part.index(room)] if room in part else 0
                                      for room in range(rooms.many())], part)
            self.assertEqual(told_web(again), told_web(web))
            for place, room in enumerate(part):
                ways = [(block, part.index(to)) for block, to in blocks_from(rooms, room, q) if to in part]
                self.assertEqual(list(web.ways[place]), ways)
            self.assertTrue(all_tuples(told_web(web)) and plain(told_web(web)))
            self.assertTrue(web_bears(web, n) and tied(web))

    def test_what_is_handed_in_stays(self):
        weights, part = [3, 0, 2], [0, 2]
        web_of(ROOMS, 2, weights, part)
        self.assertEqual((weights, part, ROOMS.ways), ([3, 0, 2], [0, 2], ((0, 1), (2, None), (0, 2))))


class WebBearsTest(unittest.TestCase):
    def test_at_the_edge_and_one_below_it(self):
        web = Web([0, 0], [2, 3], [[("a", 0), ("b", 0), ("c", 0)], [("a", 1), ("b", 1), ("c", 1), ("d", 0)]])
        self.assertIs(web_bears(web, 3), True)
        self.assertIs(web_bears(web, 2), True)
        self.assertIs(web_bears(web, 4), False)
        lesser = Web([0, 0], [2, 3], [[("a", 0), ("b", 0), ("c", 0)], [("a", 1), ("b", 1), ("d", 0)]])
        self.assertIs(web_bears(lesser, 2), True)
        self.assertIs(web_bears(lesser, 3), False)

    def test_each_way_is_counted(self):
        web = Web([7], [5], [[("a", 0), ("b", 0)]])
        self.assertEqual([web_bears(web, n) for n in (1, 2, 3)], [True, True, False])

    def test_held_against_the_point(self):
        for n, web in random_webs():
            for wish in range(1, n + 4):
                self.assertIs(web_bears(web, wish), bears_in_full(web, wish))


if __name__ == "__main__":
    unittest.main()
