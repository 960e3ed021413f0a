import itertools
import unittest

from example_webs import bare, club, every_set, full, parting, ring, row, small_webs, stands_apart, star, tied, watches
from guardround.sets import first_far, first_near, first_unwatched, is_parting, sets_of
from guardround.webs import Web


class Watching(unittest.TestCase):
    def test_small_webs_and_all_sets(self):
        for web in small_webs(4):
            for some in every_set(web.places):
                left = [place for place in range(web.places) if not watches(web, some, place)]
                self.assertEqual(first_unwatched(web, some), min(left, default=None))

    def test_the_empty_set_watches_nothing(self):
        for web in (bare(1), full(5), bare(60), full(60)):
            self.assertEqual(first_unwatched(web, ()), 0)

    def test_large_webs(self):
        self.assertEqual(first_unwatched(bare(60), tuple(range(59))), 59)
        self.assertIsNone(first_unwatched(bare(60), tuple(range(60))))
        self.assertIsNone(first_unwatched(full(60), (17,)))
        self.assertIsNone(first_unwatched(star(60), (59,)))
        self.assertEqual(first_unwatched(star(60), (0,)), 1)
        self.assertIsNone(first_unwatched(ring(60), tuple(range(0, 60, 3))))
        self.assertEqual(first_unwatched(ring(60), tuple(range(3, 60, 3))), 0)


class PairsNearAndFar(unittest.TestCase):
    def test_small_webs_and_all_sets(self):
        for web in small_webs(4):
            for some in every_set(web.places):
                pairs = list(itertools.combinations(some, 2))
                close = [pair for pair in pairs if tied(web, *pair)]
                apart = [pair for pair in pairs if not tied(web, *pair)]
                self.assertEqual(first_near(web, some), min(close, default=None))
                self.assertEqual(first_far(web, some), min(apart, default=None))
                self.assertEqual(first_near(web, some) is None, stands_apart(web, some))

    def test_of_no_place_and_of_one(self):
        for web in (bare(1), bare(60), full(60)):
            for some in ((), (0,), (web.places - 1,)):
                self.assertIsNone(first_near(web, some))
                self.assertIsNone(first_far(web, some))

    def test_a_pair_is_a_rising_tuple(self):
        web = Web(5, [(4, 2), (3, 1)])
        self.assertEqual(first_near(web, (0, 2, 3, 4)), (2, 4))
        self.assertEqual(first_near(web, (0, 1, 2, 3, 4)), (1, 3))
        self.assertEqual(first_far(web, (1, 3, 4)), (1, 4))
        self.assertIs(type(first_near(web, (2, 4))), tuple)
        self.assertIs(type(first_far(web, (0, 4))), tuple)

    def test_large_webs(self):
        everything = tuple(range(60))
        self.assertEqual(first_near(full(60), everything), (0, 1))
        self.assertIsNone(first_far(full(60), everything))
        self.assertIsNone(first_near(bare(60), everything))
        self.assertEqual(first_far(bare(60), (58, 59)), (58, 59))
        self.assertEqual(first_near(ring(60), (0, 2, 59)), (0, 59))
        self.assertEqual(first_far(row(60), (7, 8, 9)), (7, 9))


class Partings(unittest.TestCase):
    web = Web(5, [(0, 1), (0, 2), (1, 2), (3, 4)])

    def test_what_is_one(self):
        for clubs in ([(0, 1, 2), (3, 4)], [(0, 2), (1,), (3, 4)], [(0,), (1, 2), (3,), (4,)],
                      [(0,), (1,), (2,), (3,), (4,)]):
            self.assertIs(is_parting(self.web, clubs), True)

    def test_what_fails_by_one_thing_alone(self):
        for why, clubs in (
            ("a place left out", [(0, 1, 2), (3,)]),
            ("the least place left out", [(1, 2), (3, 4)]),
            ("a place in two clubs", [(0, 1), (1, 2), (3, 4)]),
            ("a club twice", [(0, 1, 2), (3, 4), (3, 4)]),
            ("an empty set at the end", [(0, 1, 2), (3, 4), ()]),
            ("an empty set at the front", [(), (0, 1, 2), (3, 4)]),
            ("a set that is no club", [(0, 1, 2, 3), (4,)]),
            ("a pair that is no club", [(0, 1), (2, 3), (4,)]),
            ("the order turned about", [(3, 4), (0, 1, 2)]),
            ("two in the middle turned about", [(0,), (2,), (1,), (3, 4)]),
            ("a place that the web has not", [(0, 1, 2), (3, 4), (5,)]),
            ("a place below nought", [(-1,), (0, 1, 2), (3, 4)]),
            ("a far place in a club", [(0, 1, 2), (3, 4, 60)]),
            ("no club", []),
            ("the empty set alone", [()]),
        ):
            with self.subTest(why):
                self.assertIs(is_parting(self.web, clubs), False)

    def test_all_short_lists_of_sets_for_small_webs(self):
        for web in small_webs(3):
            for length in range(web.places + 2):
                for clubs in itertools.product(every_set(web.places), repeat=length):
                    self.assertIs(is_parting(web, list(clubs)), parting(web, clubs))

    def test_large_webs(self):
        self.assertIs(is_parting(full(60), [tuple(range(60))]), True)
        self.assertIs(is_parting(bare(60), [tuple(range(60))]), False)
        singles = [(place,) for place in range(60)]
        self.assertIs(is_parting(bare(60), singles), True)
        self.assertIs(is_parting(bare(60), singles[:-1]), False)
        self.assertIs(is_parting(row(60), [(place, place + 1) for place in range(0, 60, 2)]), True)
        self.assertIs(is_parting(bare(1), [(0,)]), True)

    def test_a_club_has_one_place_at_least(self):
        self.assertFalse(club(self.web, ()))
        self.assertIs(is_parting(bare(1), [(0,), ()]), False)

    def test_what_is_handed_in_stays_as_it_was(self):
        for clubs in ([(3, 4), (0, 1, 2)], [(0, 1, 2), (3, 4)]):
            handed = list(clubs)
            first = is_parting(self.web, handed)
            self.assertEqual(handed, clubs)
            handed.append((0,))
            self.assertIs(is_parting(self.web, handed), False)
            handed.pop()
            self.assertIs(is_parting(self.web, handed), first)


class SetsOfASize(unittest.TestCase):
    def test_rising_and_all(self):
        for places in range(1, 8):
            for size in range(places + 2):
                self.assertEqual(sets_of(places, size), list(itertools.combinations(range(places), size)))

    def test_nearly_all_of_many_places(self):
        self.assertEqual(sets_of(60, 59), list(itertools.combinations(range(60), 59)))


if __name__ == "__main__":
    unittest.main()
