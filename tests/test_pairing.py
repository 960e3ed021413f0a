import itertools
import unittest

from example_webs import WithRefusals, bare, every_set, every_web, full, grid, parting, plain_shapes, ring, row
from example_webs import sixties, small_webs, stands_apart, star
from guardround.colours import two_colours
from guardround.errors import NotTwo
from guardround.fewest import fewest
from guardround.pairing import apart_and_clubs, least_cover, most_pairs
from guardround.sets import is_parting
from guardround.webs import Web


def unlike_places(pairs):
    places = [place for pair in pairs for place in pair]
    return len(set(places)) == len(places)


def number_of_pairs(web):
    return max(size for size in range(len(web.ties) + 1)
               if any(unlike_places(pairs) for pairs in itertools.combinations(web.ties, size)))


def covers(web, some):
    return all(one in some or other in some for one, other in web.ties)


def number_in_cover(web):
    return min(len(some) for some in every_set(web.places) if covers(web, some))


def number_of_clubs(web):
    clubs = [some for some in every_set(web.places)[1:]
             if len(some) == 1 or (len(some) == 2 and some in web.ties)]
    return min(size for size in range(1, web.places + 1)
               if any(unlike_places(chosen) and sum(map(len, chosen)) == web.places
                      for chosen in itertools.combinations(clubs, size)))


def of_two_colours(webs):
    return [web for web in webs if two_colours(web) is not None]


def small_ones():
    """Among them two stars with their middles tied, which have places unpaired of either colour in one part."""
    stars = [Web(6, [(0, 1), (0, 2), (0, 3), (3, 4), (3, 5)]), Web(7, [(2, 0), (2, 1), (2, 3), (3, 4), (3, 5), (3, 6)])]
    return of_two_colours(small_webs(4) + every_web(5)[::7] + plain_shapes(6) + [grid(3, 2)] + stars)


class Told(unittest.TestCase):
    def check_forms(self, web):
        pairs = most_pairs(web)
        cover = least_cover(web)
        told = apart_and_clubs(web)
        self.assertIs(type(pairs), list)
        self.assertEqual(pairs, sorted(pairs))
        self.assertTrue(all(pair in web.ties and type(pair) is tuple for pair in pairs))
        self.assertTrue(unlike_places(pairs))
        self.assertIs(type(cover), tuple)
        self.assertEqual(list(cover), sorted(set(cover)))
        self.assertTrue(covers(web, cover))
        self.assertIs(type(told), tuple)
        apart, clubs = told
        self.assertIs(type(apart), tuple)
        self.assertEqual(list(apart), sorted(set(apart)))
        self.assertTrue(stands_apart(web, apart))
        self.assertIs(type(clubs), list)
        self.assertTrue(parting(web, clubs) and is_parting(web, clubs))
        self.assertEqual(len(apart), len(clubs))
        return pairs, cover, apart

    def test_small_webs_against_all_sets(self):
        for web in small_ones():
            with self.subTest(ties=web.ties, places=web.places):
                pairs, cover, apart = self.check_forms(web)
                self.assertEqual(len(pairs), number_of_pairs(web))
                self.assertEqual(len(cover), number_in_cover(web))
                self.assertEqual(len(pairs), len(cover))
                self.assertEqual(len(apart), max(len(some) for some in every_set(web.places)
                                                 if stands_apart(web, some)))
                self.assertEqual(len(apart), number_of_clubs(web))

    def test_the_fewest_guards_of_one_are_just_so_many(self):
        for web in small_ones() + [grid(4, 2), ring(8), row(8), star(8), bare(8)]:
            self.assertEqual(len(apart_and_clubs(web)[0]), fewest(web, "one"))

    def test_large_webs(self):
        """Pairs and a cover of as many show one another to be the most and the least."""
        for web in sixties()[0] + [grid(5, 12), grid(7, 8), Web(60, [(a, 59 - a) for a in range(30)])]:
            pairs, cover, apart = self.check_forms(web)
            self.assertEqual(len(pairs), len(cover))
            self.assertEqual(len(apart), web.places - len(pairs))

    def test_webs_where_pairs_must_be_changed(self):
        """Whoever pairs the first that is there must take pairs apart again."""
        for number in range(1, 20):
            ties = [(a, 30 + (a * number + b * b) % 30) for a in range(30) for b in range(1 + a % 3)]
            web = Web(60, sorted(set(ties)))
            pairs, cover, apart = self.check_forms(web)
            self.assertEqual(len(pairs), len(cover))
        chain = Web(60, [(a, 30 + a) for a in range(30)] + [(a, 31 + a) for a in range(29)])
        self.assertEqual(len(most_pairs(chain)), 30)
        turned = Web(60, [(a, 59 - a) for a in range(30)] + [(a, 58 - a) for a in range(29)])
        self.assertEqual(len(most_pairs(turned)), 30)

    def test_by_hand(self):
        self.assertEqual((most_pairs(bare(3)), least_cover(bare(3))), ([], ()))
        self.assertEqual(apart_and_clubs(bare(3)), ((0, 1, 2), [(0,), (1,), (2,)]))
        self.assertEqual(least_cover(star(6)), (5,))
        self.assertEqual(apart_and_clubs(star(6))[0], (0, 1, 2, 3, 4))
        self.assertEqual(most_pairs(row(4)), [(0, 1), (2, 3)])
        self.assertEqual(least_cover(row(5)), (1, 3))
        self.assertEqual(apart_and_clubs(bare(1)), ((0,), [(0,)]))


class Refused(WithRefusals):
    def test_without_two_colours(self):
        for web in [ring(3), ring(5), full(4), Web(6, [(0, 1), (3, 4), (4, 5), (3, 5)])] + sixties()[1]:
            for ask in (most_pairs, least_cover, apart_and_clubs):
                self.assert_refused(NotTwo, ask, web)


class NothingIsKeptOrChanged(WithRefusals):
    def test_lists_are_told_anew(self):
        for web in (grid(3, 2), bare(3), row(4)):
            before = (web.places, web.ties)
            self.assert_told_anew(lambda: most_pairs(web))
            self.assert_told_anew(lambda: apart_and_clubs(web))
            self.assertEqual(least_cover(web), least_cover(web))
            self.assertEqual((web.places, web.ties), before)


if __name__ == "__main__":
    unittest.main()
