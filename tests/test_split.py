import unittest

from grooveway.split import choice, evened, finished, split
from grooveway.web import Web, web_bears
from helpers import plain, random_webs, tied, told_web, webs_of_rooms


def all_webs():
    return random_webs() + [(n, web) for rooms, q, n, web in webs_of_rooms()]


def split_behind(web, n, place, picks):
    """The web behind a split, as point 7.4 tells it."""
    new = len(web.homes)
    own = list(web.ways[place])
    share = sum(web.weights[own[number][1]] for number in picks) // n
    ways = [list(each) for each in web.ways]
    ways[place] = [own[number] for number in range(len(own)) if number in picks]
    ways.append([own[number] for number in range(len(own)) if number not in picks])
    twice = []
    for each in ways:
        twice.append(())
        for block, to in each:
            twice[-1] += ((block, place), (block, new)) if to == place else ((block, to),)
    weights = list(web.weights) + [web.weights[place] - share]
    weights[place] = share
    return (web.homes + (web.homes[place],), tuple(weights), tuple(twice))


def rows_of_blocks(web, place, length):
    """All rows of so many blocks that can be gone from the place."""
    rows = {((), place)}
    for step in range(length):
        rows = {(row + (way[0],), way[1]) for row, at in rows for way in web.ways[at]}
    return {row for row, at in rows}


class ChoiceTest(unittest.TestCase):
    def check(self, web, n):
        place, picks = choice(web, n)
        weight = web.weights[place]
        behind = [web.weights[way[1]] for way in web.ways[place]]
        self.assertEqual(weight, max(web.weights))
        self.assertLess(min(behind), weight)
        self.assertIs(type(picks), list)
        self.assertTrue(plain(picks))
        self.assertEqual(picks, sorted(set(picks)))
        self.assertTrue(0 < len(picks) < len(behind))
        self.assertTrue(0 <= picks[0] and picks[-1] < len(behind))
        total = sum(behind[number] for number in picks)
        self.assertEqual(total % n, 0)
        self.assertTrue(1 <= total // n <= weight - 1)
        return (place, picks)

    def test_none_where_all_weights_are_alike(self):
        self.assertIsNone(choice(Web([0], [1], [[("a", 0)]]), 1))
        self.assertIsNone(choice(Web([0], [4], [[("a", 0), ("b", 0)]]), 2))
        self.assertIsNone(choice(Web([0, 1], [2, 2], [[("a", 1)], [("a", 0)]]), 1))

    def test_small_ones(self):
        web = Web([0, 1], [2, 1], [[("a", 0), ("b", 1)], [("a", 0)]])
        self.assertEqual(self.check(web, 1), (0, [1]))
        # The picks sum up to 2 times 1: both ways to the lesser place, or the one to itself.
        web = Web([0, 1], [2, 1], [[("a", 1), ("b", 0), ("c", 1)], [("a", 0)]])
        self.assertIn(self.check(web, 2), ((0, [0, 2]), (0, [1])))

    def test_a_kind_is_told(self):
        told = choice(Web([0, 1], [2, 1], [[("a", 0), ("b", 1)], [("a", 0)]]), 1)
        self.assertIs(type(told), tuple)
        self.assertEqual(len(told), 2)

    def test_the_place_found_first_has_no_way_to_a_lesser_one(self):
        web = Web([0, 1, 2], [3, 3, 1], [[("a", 1), ("b", 0)], [("a", 0), ("b", 2)], [("a", 0)]])
        self.assertEqual(self.check(web, 1)[0], 1)
        web = Web([0, 1, 2, 3], [1, 4, 4, 4], [[("a", 1)], [("a", 2)], [("b", 3)], [("a", 1), ("b", 0)]])
        self.assertEqual(self.check(web, 1)[0], 3)

    def test_the_heaviest_place_is_not_the_first(self):
        web = Web([0, 1], [1, 2], [[("a", 1), ("b", 1)], [("a", 0), ("b", 0), ("c", 1)]])
        self.assertEqual(self.check(web, 2)[0], 1)

    def test_many_webs(self):
        tried = 0
        for n, web in all_webs():
            before = told_web(web)
            if len(set(web.weights)) == 1:
                self.assertIsNone(choice(web, n))
            else:
                tried += 1
                self.check(web, n)
            self.assertEqual(told_web(web), before)
        self.assertGreater(tried, 100)

    def test_the_lesser_way_is_the_last_one(self):
        for n in (1, 2, 3, 4, 5):
            ways = [("a" * length, 0) for length in range(1, n + 3)] + [("b", 1)]
            self.check(Web([0, 1], [5, 3], [ways, [("a" * length, 0) for length in range(1, n + 2)]]), n)


class SplitTest(unittest.TestCase):
    def test_picked_ways_and_others_share_and_rest(self):
        web = Web([7, 8, 9], [3, 1, 2], [[("a", 1), ("b", 0), ("c", 2), ("d", 1)], [("a", 0)], [("x", 1), ("y", 0)]])
        after = split(web, 1, 0, [0, 3])
        self.assertEqual(after.homes, (7, 8, 9, 7))
        self.assertEqual(after.weights, (2, 1, 2, 1))
        self.assertEqual(after.ways, (
            (("a", 1), ("d", 1)),
            (("a", 0), ("a", 3)),
            (("x", 1), ("y", 0), ("y", 3)),
            (("b", 0), ("b", 3), ("c", 2)),
        ))

    def test_a_way_of_the_place_to_itself_among_the_picks(self):
        web = Web([0, 1], [1, 4], [[("a", 1)], [("a", 0), ("b", 1), ("c", 0), ("d", 1), ("e", 0)]])
        after = split(web, 2, 1, [0, 1, 2])
        self.assertEqual(after.weights, (1, 3, 1))
        self.assertEqual(after.ways, (
            (("a", 1), ("a", 2)),
            (("a", 0), ("b", 1), ("b", 2), ("c", 0)),
            (("d", 1), ("d", 2), ("e", 0)),
        ))

    def test_ways_with_one_block_keep_their_order(self):
        web = Web([5, 5], [2, 1], [[("a", 1), ("a", 0), ("b", 1)], [("a", 0), ("a", 1)]])
        after = split(web, 1, 0, [2])
        self.assertEqual(after.weights, (1, 1, 1))
        self.assertEqual(after.ways, ((("b", 1),), (("a", 0), ("a", 2), ("a", 1)), (("a", 1), ("a", 0), ("a", 2))))

    def test_what_comes_of_each_choice(self):
        for n, web in all_webs():
            chosen = choice(web, n)
            if chosen is None:
                continue
            place, picks = chosen
            before = told_web(web)
            kept = list(picks)
            after = split(web, n, place, picks)
            self.assertEqual(told_web(after), split_behind(web, n, place, kept))
            self.assertEqual((told_web(web), picks), (before, kept))
            self.assertTrue(web_bears(after, n))
            self.assertTrue(tied(after))
            self.assertTrue(all(len(set(own)) == len(own) for own in after.ways))
            self.assertEqual(sum(after.weights), sum(web.weights))
            self.assertEqual(rows_of_blocks(web, place, 2),
                             rows_of_blocks(after, place, 2) | rows_of_blocks(after, web.many(), 2))
            self.assertEqual(after.many(), web.many() + 1)


class EvenedTest(unittest.TestCase):
    def test_all_weights_become_one_and_nothing_else_changes(self):
        for weights in ([1, 1], [3, 3], [2, 5]):
            web = Web([4, 6], weights, [[("a", 1)], [("b", 0), ("a", 1)]])
            after = evened(web)
            self.assertEqual(told_web(after), ((4, 6), (1, 1), ((("a", 1),), (("b", 0), ("a", 1)))))
            self.assertEqual(web.weights, tuple(weights))


class FinishedTest(unittest.TestCase):
    def test_weights_that_are_all_one_already(self):
        web = Web([0, 1], [1, 1], [[("a", 1)], [("a", 0)]])
        told = finished(web, 1)
        self.assertIs(type(told), list)
        self.assertEqual([told_web(each) for each in told], [told_web(web)])

    def test_weights_alike_above_one(self):
        web = Web([3, 1], [4, 4], [[("a", 1)], [("a", 0)]])
        told = finished(web, 1)
        self.assertEqual([each.weights for each in told], [(4, 4), (1, 1)])
        self.assertEqual([told_web(told[0]), told[1].ways, told[1].homes], [told_web(web), web.ways, web.homes])

    def test_weights_that_become_alike_above_one(self):
        web = Web([0, 1], [4, 2], [[("a", 1), ("b", 1)], [("a", 0), ("b", 1)]])
        told = finished(web, 1)
        self.assertEqual([each.weights for each in told], [(4, 2), (2, 2, 2), (1, 1, 1)])

    def test_one_split(self):
        web = Web([0, 1], [2, 1], [[("a", 0), ("b", 1)], [("a", 0)]])
        told = finished(web, 1)
        self.assertEqual([each.weights for each in told], [(2, 1), (1, 1, 1)])

    def test_many_webs(self):
        for n, web in all_webs():
            before = told_web(web)
            told = finished(web, n)
            self.assertEqual(told_web(web), before)
            self.assertEqual(told_web(told[0]), before)
            splits = [each for each in told if each.many() > web.many()]
            self.assertLessEqual(told[-1].many() - web.many(), sum(web.weights) - web.many())
            alike = [each for each in told if len(set(each.weights)) == 1]
            self.assertEqual(set(told[-1].weights), {1})
            self.assertEqual([each.many() for each in told],
                             sorted(set(each.many() for each in told)) + [told[-1].many()] * (len(alike) - 1))
            self.assertLessEqual(len(alike), 2)
            if len(alike) == 2:
                self.assertGreater(alike[0].weights[0], 1)
                self.assertEqual(told_web(evened(told[-2])), told_web(told[-1]))
            for each in splits:
                self.assertTrue(web_bears(each, n))
                self.assertTrue(set(each.homes) == set(web.homes))
            self.assertTrue(all(len(own) >= n for own in told[-1].ways))
            self.assertTrue(tied(told[-1]))

    def test_each_web_is_split_from_the_one_ahead_of_it(self):
        for n, web in random_webs():
            told = finished(web, n)
            for one, other in zip(told, told[1:]):
                chosen = choice(one, n)
                expected = evened(one) if chosen is None else split(one, n, chosen[0], chosen[1])
                self.assertEqual(told_web(other), told_web(expected))


if __name__ == "__main__":
    unittest.main()
