import functools
import itertools
import unittest

from example_webs import bare, club, every_set, every_web, full, parting, ring, row, small_webs, stands_apart, star
from example_webs import tied, twelves, watches
from guardround.errors import GuardError, TooLarge
from guardround.greatest import fewest_clubs, fewest_watch, most_apart
from guardround.sets import is_parting
from guardround.webs import Web

ASKED = (fewest_watch, most_apart, fewest_clubs)


def least_watching(web):
    sets = [some for some in every_set(web.places) if all(watches(web, some, place) for place in range(web.places))]
    return min(sets, key=lambda some: (len(some), some))


def greatest_apart(web):
    sets = [some for some in every_set(web.places) if stands_apart(web, some)]
    return min(sets, key=lambda some: (-len(some), some))


def number_of_clubs(web):
    """Over all sets of places: the club of the least place, then the rest."""
    clubs = [some for some in every_set(web.places) if club(web, some)]
    by_least = {least: [frozenset(some) for some in clubs if some[0] == least] for least in range(web.places)}

    @functools.lru_cache(None)
    def needed(left):
        if not left:
            return 0
        return 1 + min(needed(left - some) for some in by_least[min(left)] if some <= left)

    return needed(frozenset(range(web.places)))


class AgainstAllSets(unittest.TestCase):
    def webs(self):
        return small_webs(4) + every_web(5)[::3] + [ring(7), ring(8), row(7), star(7)] + twelves()

    def test_the_fewest_that_watch(self):
        for web in self.webs():
            with self.subTest(ties=web.ties):
                self.assertEqual(fewest_watch(web), least_watching(web))

    def test_the_most_apart(self):
        for web in self.webs():
            with self.subTest(ties=web.ties):
                self.assertEqual(most_apart(web), greatest_apart(web))

    def test_the_fewest_clubs(self):
        for web in self.webs():
            with self.subTest(ties=web.ties):
                told = fewest_clubs(web)
                self.assertTrue(parting(web, told))
                self.assertIs(is_parting(web, told), True)
                self.assertEqual(len(told), number_of_clubs(web))

    def test_none_is_more_than_the_next(self):
        for web in self.webs():
            numbers = [len(ask(web)) for ask in ASKED]
            self.assertEqual(numbers, sorted(numbers))

    def test_kinds(self):
        for web in (bare(1), full(4), ring(5)):
            self.assertIs(type(fewest_watch(web)), tuple)
            self.assertIs(type(most_apart(web)), tuple)
            self.assertIs(type(fewest_clubs(web)), list)
            for some in fewest_clubs(web) + [fewest_watch(web), most_apart(web)]:
                self.assertIs(type(some), tuple)
                self.assertEqual(list(some), sorted(set(some)))


class ByHand(unittest.TestCase):
    def test_one_place(self):
        self.assertEqual([ask(bare(1)) for ask in ASKED], [(0,), (0,), [(0,)]])

    def test_without_ties(self):
        self.assertEqual(fewest_watch(bare(4)), (0, 1, 2, 3))
        self.assertEqual(most_apart(bare(4)), (0, 1, 2, 3))
        self.assertEqual(fewest_clubs(bare(4)), [(0,), (1,), (2,), (3,)])

    def test_with_all_ties(self):
        self.assertEqual([ask(full(5)) for ask in ASKED], [(0,), (0,), [(0, 1, 2, 3, 4)]])

    def test_the_three_can_all_differ(self):
        self.assertEqual(fewest_watch(star(6)), (5,))
        self.assertEqual(most_apart(star(6)), (0, 1, 2, 3, 4))
        self.assertEqual(most_apart(ring(5)), (0, 2))
        self.assertEqual(len(fewest_clubs(ring(5))), 3)

    def test_the_first_of_several(self):
        self.assertEqual(fewest_watch(ring(6)), (0, 3))
        self.assertEqual(most_apart(ring(6)), (0, 2, 4))
        self.assertEqual(fewest_watch(row(4)), (0, 2))
        self.assertEqual(most_apart(row(4)), (0, 2))

    def test_the_first_to_fit_is_not_always_best(self):
        """Joining each place to the first club that takes it would need three clubs here."""
        web = Web(4, [(0, 1), (0, 2), (1, 3)])
        self.assertEqual(fewest_clubs(web), [(0, 2), (1, 3)])


class TheBound(unittest.TestCase):
    def test_thirteen_places_are_refused(self):
        for places in (13, 14, 60):
            for web in (bare(places), full(places)):
                for ask in ASKED:
                    with self.assertRaises(GuardError) as caught:
                        ask(web)
                    self.assertIs(type(caught.exception), TooLarge)

    def test_twelve_are_not(self):
        everything = tuple(range(12))
        singles = [(place,) for place in everything]
        self.assertEqual([ask(bare(12)) for ask in ASKED], [everything, everything, singles])
        self.assertEqual([ask(full(12)) for ask in ASKED], [(0,), (0,), [everything]])


class NothingIsKeptOrChanged(unittest.TestCase):
    def test_the_same_answer_each_time(self):
        web = ring(7)
        told = [ask(web) for ask in ASKED]
        self.assertEqual([ask(web) for ask in ASKED], told)
        self.assertEqual([ask(ring(7)) for ask in ASKED], told)
        self.assertEqual((web.places, web.ties), (7, ring(7).ties))

    def test_a_parting_is_the_askers_own(self):
        for web in (ring(7), bare(3), full(3), bare(1)):
            told = fewest_clubs(web)
            again = fewest_clubs(web)
            self.assertIsNot(told, again)
            self.assertEqual(told, again)
            told.append((99,))
            told[0] = ()
            self.assertEqual(fewest_clubs(web), again)


class WordsOfTheDocument(unittest.TestCase):
    """The tests' own reading, held to webs that are plain by hand."""

    def test_the_reading(self):
        web = Web(4, [(0, 1), (1, 2)])
        self.assertTrue(tied(web, 1, 0) and tied(web, 1, 2) and not tied(web, 0, 2))
        self.assertEqual([some for some in itertools.combinations(range(4), 2) if stands_apart(web, some)],
                         [(0, 2), (0, 3), (1, 3), (2, 3)])
        self.assertEqual([least_watching(web), greatest_apart(web), number_of_clubs(web)], [(1, 3), (0, 2, 3), 3])


if __name__ == "__main__":
    unittest.main()
