import itertools
import unittest

from example_webs import WithRefusals, all_ties, bare, every_set, full, grid, ring, row, small_webs, star, tied
from example_webs import ways
from guardround.errors import BadPlaces, BadTie, NoPlace
from guardround.webs import Web, near, parts_of, way_between, web_within


class MakingAWeb(WithRefusals):
    def test_fields(self):
        web = Web(5, [(3, 1), (4, 0), (0, 1)])
        self.assertEqual(web.places, 5)
        self.assertEqual(web.ties, ((0, 1), (0, 4), (1, 3)))
        self.assertIs(type(web.ties), tuple)
        self.assertTrue(all(type(tie) is tuple for tie in web.ties))

    def test_order_and_direction_of_ties_do_not_matter(self):
        ties = [(0, 1), (1, 2), (0, 3)]
        for turned in itertools.product((False, True), repeat=3):
            for order in itertools.permutations(zip(ties, turned)):
                handed = [tie[::-1] if turn else tie for tie, turn in order]
                for told in (handed, tuple(handed), [list(tie) for tie in handed]):
                    web = Web(4, told)
                    self.assertEqual(web.ties, ((0, 1), (0, 3), (1, 2)))
                    self.assertEqual([near(web, place) for place in range(4)], [(1, 3), (0, 2), (1,), (0,)])

    def test_one_place_and_sixty(self):
        for places in (1, 2, 59, 60):
            for none in ([], ()):
                self.assertEqual((Web(places, none).places, Web(places, none).ties), (places, ()))
        self.assertEqual(Web(60, all_ties(60)[::-1]).ties, tuple(all_ties(60)))

    def test_number_of_places(self):
        for places in (0, -1, -60, 61, 62, 1000, 10 ** 30):
            with self.subTest(places):
                self.assert_refused(BadPlaces, Web, places, [])
                self.assert_refused(BadPlaces, Web, places, ())

    def test_a_tie_of_one_place_twice(self):
        for ties in ([(0, 0)], [(0, 1), (2, 2)], ((2, 2), (0, 1))):
            self.assert_refused(BadTie, Web, 3, ties)
        self.assert_refused(BadTie, Web, 1, [(0, 0)])

    def test_a_tie_with_a_place_that_is_not_there(self):
        for strange in (-1, -3, 3, 4, 60):
            for tie in ((0, strange), (strange, 0), (2, strange), (strange, 2), (strange, strange)):
                with self.subTest(tie):
                    self.assert_refused(BadTie, Web, 3, [tie])
                    self.assert_refused(BadTie, Web, 3, ((0, 1), tie))
        self.assert_refused(BadTie, Web, 60, [(59, 60)])
        self.assert_refused(BadTie, Web, 3, [(3, 4)])
        self.assertEqual(Web(60, [(59, 0)]).ties, ((0, 59),))

    def test_a_tie_that_is_there_already(self):
        for ties in ([(0, 1), (0, 1)], [(0, 1), (1, 0)], [(1, 0), (0, 1)], [(1, 0), (1, 2), (1, 0)]):
            with self.subTest(ties):
                self.assert_refused(BadTie, Web, 3, ties)
                self.assert_refused(BadTie, Web, 3, tuple(ties))

    def test_bad_places_goes_ahead_of_bad_tie(self):
        for places in (0, -1, 61):
            for ties in ([(0, 0)], [(0, 99)], [(-1, 0)], [(0, 1), (1, 0)]):
                self.assert_refused(BadPlaces, Web, places, ties)


class NearPlaces(WithRefusals):
    def test_all_that_are_near_and_no_others(self):
        for web in small_webs(4):
            for place in range(web.places):
                told = near(web, place)
                self.assertIs(type(told), tuple)
                self.assertEqual(told, tuple(other for other in range(web.places) if tied(web, place, other)))

    def test_large_webs(self):
        self.assertEqual(near(bare(60), 59), ())
        self.assertEqual(near(full(60), 30), tuple(range(30)) + tuple(range(31, 60)))
        self.assertEqual(near(ring(60), 0), (1, 59))
        self.assertEqual(near(bare(1), 0), ())

    def test_a_place_that_is_not_there(self):
        for web in (bare(1), full(3), bare(60)):
            for place in (-1, -web.places, web.places, web.places + 1, 1000):
                self.assert_refused(NoPlace, near, web, place)


class PartsOfAWeb(unittest.TestCase):
    def test_small_webs_by_their_ways(self):
        for web in small_webs(4):
            told = parts_of(web)
            self.assertIs(type(told), list)
            together = [tuple(other for other in range(web.places) if ways(web, [one], other))
                        for one in range(web.places)]
            self.assertEqual(told, sorted(set(together)))
            self.assertTrue(all(type(part) is tuple for part in told))

    def test_parts_are_by_their_least_places(self):
        web = Web(7, [(6, 0), (1, 5), (5, 3)])
        self.assertEqual(parts_of(web), [(0, 6), (1, 3, 5), (2,), (4,)])

    def test_large_webs(self):
        self.assertEqual(parts_of(bare(60)), [(place,) for place in range(60)])
        for web in (full(60), row(60), ring(60), star(60)):
            self.assertEqual(parts_of(web), [tuple(range(60))])
        evens = Web(60, [(place, place + 2) for place in range(58)])
        self.assertEqual(parts_of(evens), [tuple(range(0, 60, 2)), tuple(range(1, 60, 2))])
        self.assertEqual(parts_of(bare(1)), [(0,)])


class TheWayBetween(WithRefusals):
    def test_small_webs_against_all_ways(self):
        for web in small_webs(4) + [Web(6, all_ties(6)[at::3]) for at in range(3)] + [grid(2, 4), ring(7)]:
            for one in range(web.places):
                for other in range(web.places):
                    every = ways(web, [one], other)
                    best = min(every, key=lambda way: (len(way), way)) if every else None
                    told = way_between(web, one, other)
                    self.assertEqual(told, best)
                    self.assertIs(type(told), type(best))

    def test_a_place_to_itself(self):
        for web in (bare(1), bare(60), full(60), ring(5)):
            for place in (0, web.places - 1):
                self.assertEqual(way_between(web, place, place), [place])

    def test_no_way(self):
        web = Web(5, [(0, 1), (2, 3)])
        for one, other in ((0, 2), (2, 0), (1, 3), (4, 0), (0, 4)):
            self.assertIsNone(way_between(web, one, other))
        self.assertIsNone(way_between(bare(60), 0, 59))

    def test_short_goes_ahead_of_first(self):
        self.assertEqual(way_between(Web(5, [(0, 1), (1, 2), (2, 4), (0, 3), (3, 4)]), 0, 4), [0, 3, 4])

    def test_the_first_step_counts_ahead_of_later_ones(self):
        web = Web(6, [(0, 1), (0, 2), (1, 4), (2, 3), (3, 5), (4, 5)])
        self.assertEqual(way_between(web, 0, 5), [0, 1, 4, 5])
        self.assertEqual(way_between(web, 5, 0), [5, 3, 2, 0])

    def test_large_webs(self):
        self.assertEqual(way_between(row(60), 59, 0), list(range(59, -1, -1)))
        self.assertEqual(way_between(full(60), 59, 0), [59, 0])
        self.assertEqual(way_between(ring(60), 0, 30), list(range(31)))
        self.assertEqual(way_between(ring(60), 30, 0), list(range(30, -1, -1)))
        self.assertEqual(way_between(ring(60), 1, 58), [1, 0, 59, 58])
        web = grid(10, 6)
        self.assertEqual(way_between(web, 0, 59), list(range(10)) + [19, 29, 39, 49, 59])
        self.assertEqual(way_between(web, 59, 0), [59, 49, 39, 29, 19, 9, 8, 7, 6, 5, 4, 3, 2, 1, 0])

    def test_an_end_that_is_not_there(self):
        for web in (bare(1), full(3), bare(60)):
            for strange in (-1, -web.places, web.places, 1000):
                self.assert_refused(NoPlace, way_between, web, strange, 0)
                self.assert_refused(NoPlace, way_between, web, 0, strange)
                self.assert_refused(NoPlace, way_between, web, strange, strange)


class TheWebWithin(unittest.TestCase):
    def test_small_webs(self):
        for web in small_webs(4):
            for some in every_set(web.places)[1:]:
                told = web_within(web, some)
                self.assertIsInstance(told, Web)
                self.assertEqual(told.places, len(some))
                wanted = [(one, other) for one, other in all_ties(len(some)) if tied(web, some[one], some[other])]
                self.assertEqual(told.ties, tuple(wanted))

    def test_places_are_numbered_anew_in_their_order(self):
        told = web_within(Web(7, [(1, 5), (5, 6), (0, 1), (2, 6)]), (1, 5, 6))
        self.assertEqual((told.places, told.ties), (3, ((0, 1), (1, 2))))
        self.assertEqual([near(told, place) for place in range(3)], [(1,), (0, 2), (1,)])

    def test_large_webs(self):
        self.assertEqual(web_within(full(60), tuple(range(60))).ties, tuple(all_ties(60)))
        self.assertEqual(web_within(ring(60), tuple(range(0, 60, 2))).ties, ())
        self.assertEqual(web_within(ring(60), (0, 30, 59)).ties, ((0, 2),))
        self.assertEqual(web_within(bare(60), (59,)).places, 1)


class NothingIsKeptOrChanged(unittest.TestCase):
    def test_ties_that_are_changed_behind_the_call(self):
        ties = [[1, 0], [1, 2]]
        web = Web(4, ties)
        self.assertEqual(ties, [[1, 0], [1, 2]])
        ties[0][0] = 3
        ties.append([2, 3])
        self.assertEqual(web.ties, ((0, 1), (1, 2)))
        self.assertEqual([near(web, place) for place in range(4)], [(1,), (0, 2), (1,), ()])
        self.assertEqual(parts_of(web), [(0, 1, 2), (3,)])
        self.assertEqual(way_between(web, 0, 2), [0, 1, 2])

    def test_a_refused_list_stays_as_it_was(self):
        ties = [(2, 1), (1, 2)]
        self.assertRaises(BadTie, Web, 3, ties)
        self.assertEqual(ties, [(2, 1), (1, 2)])

    def test_answers_are_the_askers_own(self):
        web = Web(4, [(0, 1), (1, 2)])
        for ask in (lambda: parts_of(web), lambda: way_between(web, 0, 2), lambda: way_between(web, 3, 3)):
            first = ask()
            again = ask()
            self.assertEqual(first, again)
            self.assertIsNot(first, again)
            first.clear()
            self.assertEqual(ask(), again)

    def test_questions_leave_the_web_as_it_was(self):
        web = Web(4, [(0, 1), (1, 2)])
        within = web_within(web, (0, 1))
        within.places = 9
        within.ties = ()
        parts_of(web).append((9,))
        way_between(web, 0, 2).append(9)
        self.assertEqual((web.places, web.ties), (4, ((0, 1), (1, 2))))
        self.assertEqual(web_within(web, (0, 1)).ties, ((0, 1),))
        self.assertIsNot(web_within(web, (0, 1, 2, 3)), web)


if __name__ == "__main__":
    unittest.main()
