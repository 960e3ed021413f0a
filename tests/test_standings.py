import itertools
import math
import unittest

from example_webs import WithRefusals, bare, full, plain_shapes, ring, row, star
from guardround.errors import BadGuards, TooLarge
from guardround.standings import how_many, number_of, standing_at, standings
from guardround.webs import Web


class StandingsAndTheirNumbers(WithRefusals):
    def test_all_of_small_webs(self):
        for web in plain_shapes(7):
            for guards in range(1, web.places + 1):
                every = list(itertools.combinations(range(web.places), guards))
                told = standings(web, guards)
                self.assertIs(type(told), list)
                self.assertEqual(told, every)
                self.assertTrue(all(type(standing) is tuple for standing in told))
                self.assertEqual(how_many(web, guards), len(every))
                for number, standing in enumerate(every):
                    self.assertEqual(standing_at(web, guards, number), standing)
                    self.assertIs(type(standing_at(web, guards, number)), tuple)
                    self.assertEqual(number_of(web, standing), number)

    def test_ties_do_not_matter(self):
        for make in (bare, row, ring, star, full):
            self.assertEqual(standings(make(5), 3), standings(bare(5), 3))
            self.assertEqual(standing_at(make(5), 3, 4), (0, 2, 4))
            self.assertEqual(number_of(make(5), (1, 3, 4)), 8)

    def test_large_webs(self):
        web = ring(60)
        for guards in (1, 2, 17, 30, 45, 59, 60):
            number = math.comb(60, guards)
            self.assertEqual(how_many(web, guards), number)
            self.assertEqual(standing_at(web, guards, 0), tuple(range(guards)))
            self.assertEqual(standing_at(web, guards, number - 1), tuple(range(60 - guards, 60)))
            self.assertEqual(number_of(web, tuple(range(guards))), 0)
            self.assertEqual(number_of(web, tuple(range(60 - guards, 60))), number - 1)
            before = None
            for asked in sorted({number * part // 97 for part in range(97)}):
                standing = standing_at(web, guards, asked)
                self.assertEqual(len(set(standing)), guards)
                self.assertEqual(list(standing), sorted(standing))
                self.assertEqual(number_of(web, standing), asked)
                self.assertTrue(before is None or before < standing)
                before = standing

    def test_neighbours_in_the_numbering(self):
        web = bare(60)
        self.assertEqual(standing_at(web, 3, 57), (0, 1, 59))
        self.assertEqual(standing_at(web, 3, 58), (0, 2, 3))
        self.assertEqual(number_of(web, (1, 2, 3)), math.comb(59, 2))
        self.assertEqual(number_of(web, (57, 58, 59)), math.comb(60, 3) - 1)

    def test_numbers_of_guards_that_are_none(self):
        for web in (bare(1), ring(5), full(60)):
            for guards in (0, -1, -60, web.places + 1, web.places + 2, 1000):
                self.assert_refused(BadGuards, how_many, web, guards)
                self.assert_refused(BadGuards, standings, web, guards)
                self.assert_refused(BadGuards, standing_at, web, guards, 0)

    def test_one_guard_and_as_many_as_places(self):
        for places in (1, 2, 59, 60):
            web = bare(places)
            self.assertEqual(standings(web, 1), [(place,) for place in range(places)])
            self.assertEqual(standings(web, places), [tuple(range(places))])


class TheBound(WithRefusals):
    def test_just_where_it_lies(self):
        for places in range(1, 61):
            for guards in range(1, places + 1):
                number = math.comb(places, guards)
                if number > 400:
                    self.assert_refused(TooLarge, standings, bare(places), guards)
                else:
                    self.assertEqual(len(standings(bare(places), guards)), number)

    def test_bad_guards_goes_ahead(self):
        for guards in (0, -3, 61, 62):
            self.assert_refused(BadGuards, standings, bare(60), guards)

    def test_only_the_list_is_bounded(self):
        self.assertEqual(how_many(bare(29), 2), 406)
        self.assertEqual(standing_at(bare(29), 2, 405), (27, 28))
        self.assertEqual(number_of(bare(29), (27, 28)), 405)


class NothingIsKeptOrChanged(WithRefusals):
    def test_lists_are_told_anew(self):
        web = Web(4, [(0, 1)])
        self.assert_told_anew(lambda: standings(web, 2))
        self.assertEqual((web.places, web.ties), (4, ((0, 1),)))


if __name__ == "__main__":
    unittest.main()
