import unittest

from example_webs import KINDS, WithRefusals, bare, duel, every_web, full, grid, in_parts, plain_shapes, ring, row
from example_webs import scattered, small_webs, star
from guardround.errors import TooLarge
from guardround.examiner import caller_holds, guide_holds
from guardround.fewest import fewest, five, shown
from guardround.greatest import fewest_clubs, fewest_watch, most_apart
from guardround.papers import caller_paper, guide_paper
from guardround.webs import Web


def chosen_webs():
    return small_webs(4) + every_web(5)[::61] + plain_shapes(6)


def eights():
    shapes = [bare(8), row(8), ring(8), star(8), full(8), grid(4, 2), Web(8, [(0, 4), (4, 7), (1, 5), (2, 6), (2, 3)])]
    return shapes + [scattered(8, step) for step in range(3)]


class TheFewest(unittest.TestCase):
    def test_small_webs_by_rounds(self):
        for web in chosen_webs():
            for kind in KINDS:
                least = min(guards for guards in range(1, web.places + 1) if duel(web, guards, kind)[0])
                self.assertEqual(fewest(web, kind), least)
                self.assertIs(type(fewest(web, kind)), int)

    def test_one_guard_more_never_does_harm(self):
        for web in chosen_webs() + eights():
            for kind in KINDS:
                papers = [guide_paper(web, guards, kind) is not None for guards in range(1, web.places + 1)]
                least = fewest(web, kind)
                self.assertEqual(papers, [guards >= least for guards in range(1, web.places + 1)])

    def test_known_shapes(self):
        """Rings and rows of n places: of all ceil(n/3) and half of n+1, of one half of n, rounded up."""
        for places in range(3, 9):
            self.assertEqual(fewest(ring(places), "all"), -(-places // 3))
            self.assertEqual(fewest(ring(places), "one"), -(-places // 2) if places > 3 else 1)
            self.assertEqual(fewest(row(places), "one"), -(-places // 2))
            self.assertEqual(fewest(row(places), "all"), -(-places // 2))
            self.assertEqual(fewest(star(places), "all"), 2)
            self.assertEqual(fewest(star(places), "one"), places - 1)
            self.assertEqual(fewest(full(places), "one"), 1)
            self.assertEqual(fewest(full(places), "all"), 1)
            self.assertEqual(fewest(bare(places), "one"), places)
            self.assertEqual(fewest(bare(places), "all"), places)

    def test_one_place(self):
        for kind in KINDS:
            self.assertEqual(fewest(bare(1), kind), 1)
            self.assertEqual(shown(bare(1), kind), (1, [((0,), ())], None))
        self.assertEqual(five(bare(1)), (1, 1, 1, 1, 1))


class WhatShowsThem(unittest.TestCase):
    def test_both_papers(self):
        for web in chosen_webs() + eights():
            for kind in KINDS:
                told = shown(web, kind)
                self.assertIs(type(told), tuple)
                guards, guide, caller = told
                self.assertEqual(guards, fewest(web, kind))
                self.assertEqual(guide, guide_paper(web, guards, kind))
                self.assertIs(guide_holds(web, guards, kind, guide), True)
                if guards == 1:
                    self.assertIsNone(caller)
                else:
                    self.assertEqual(caller, caller_paper(web, guards - 1, kind))
                    self.assertIs(caller_holds(web, guards - 1, kind, caller), True)


class TheFiveNumbers(unittest.TestCase):
    def test_each_of_them(self):
        for web in chosen_webs() + eights():
            told = five(web)
            self.assertIs(type(told), tuple)
            self.assertEqual(told, (len(fewest_watch(web)), fewest(web, "all"), len(most_apart(web)),
                                    fewest(web, "one"), len(fewest_clubs(web))))
            self.assertEqual(list(told), sorted(told))

    def test_all_webs_of_five_places_lie_in_a_row(self):
        for web in every_web(5)[::7]:
            told = five(web)
            self.assertEqual(list(told), sorted(told))

    def test_by_hand(self):
        self.assertEqual(five(star(6)), (1, 2, 5, 5, 5))
        self.assertEqual(five(ring(5)), (2, 2, 2, 3, 3))
        self.assertEqual(five(ring(7)), (3, 3, 3, 4, 4))
        self.assertEqual(five(bare(8)), (8, 8, 8, 8, 8))
        self.assertEqual(five(full(8)), (1, 1, 1, 1, 1))
        self.assertEqual([five(web) for web in in_parts()], [(3, 3, 3, 3, 3), (3, 4, 4, 4, 4), (2, 3, 3, 3, 3),
                                                              (4, 4, 4, 4, 4)])


class TheBound(WithRefusals):
    def test_nine_places_are_refused(self):
        for places in (9, 10, 12, 13, 60):
            for web in (bare(places), full(places)):
                self.assert_refused(TooLarge, five, web)
                for kind in KINDS:
                    self.assert_refused(TooLarge, fewest, web, kind)
                    self.assert_refused(TooLarge, shown, web, kind)

    def test_eight_are_not(self):
        self.assertEqual([fewest(grid(4, 2), kind) for kind in KINDS], [4, 3])


class NothingIsKeptOrChanged(WithRefusals):
    def test_lists_are_told_anew(self):
        web = ring(5)
        for kind in KINDS:
            self.assert_told_anew(lambda: shown(web, kind))
            told = shown(web, kind)
            self.assertIsNot(told[1], told[2])
        self.assertEqual((five(web), five(web)), (five(ring(5)),) * 2)
        self.assertEqual((web.places, web.ties), (5, ring(5).ties))


if __name__ == "__main__":
    unittest.main()
