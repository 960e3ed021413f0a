import itertools
import unittest

from example_webs import KINDS, WithRefusals, all_ties, bare, every_web, full, in_parts, plain_shapes, ring, row
from example_webs import small_webs, star, tied as near_by
from guardround.beside import beside, caller_beside, guide_beside, tied
from guardround.errors import BadPlaces, BadTie
from guardround.examiner import caller_holds, guide_holds
from guardround.fewest import fewest
from guardround.papers import caller_paper, guide_paper
from guardround.webs import Web


def pairs_of_webs():
    some = [bare(1), bare(2), row(2), row(3), star(4), ring(4), ring(5), full(3), Web(4, [(0, 2)]), row(4)]
    return [(one, other) for one, other in itertools.product(some, repeat=2) if one.places + other.places <= 8]


class TwoWebsAsOne(WithRefusals):
    def test_places_and_ties(self):
        for one, other in itertools.product(small_webs(3) + [ring(5), star(4)], repeat=2):
            told = beside(one, other)
            self.assertIsInstance(told, Web)
            self.assertEqual(told.places, one.places + other.places)
            first = one.places
            wanted = [(a, b) for a, b in all_ties(told.places) if (b < first and near_by(one, a, b))
                      or (a >= first and near_by(other, a - first, b - first))]
            self.assertEqual(told.ties, tuple(wanted))

    def test_up_to_sixty_places(self):
        self.assertEqual(beside(full(30), ring(30)).places, 60)
        self.assertEqual(beside(row(59), bare(1)).ties, row(59).ties)
        self.assertEqual(beside(bare(1), row(59)).ties, tuple((a, a + 1) for a in range(1, 59)))
        for one, other in ((60, 1), (1, 60), (31, 30), (60, 60)):
            self.assert_refused(BadPlaces, beside, bare(one), bare(other))
            self.assert_refused(BadPlaces, beside, full(one), full(other))

    def test_the_webs_stay(self):
        one, other = ring(4), row(3)
        told = beside(one, other)
        self.assertEqual((one.ties, other.ties), (ring(4).ties, row(3).ties))
        one.ties = ()
        self.assertEqual(told.ties, ring(4).ties + ((4, 5), (5, 6)))


class TheFewestOfBoth(unittest.TestCase):
    def test_are_those_of_both_together(self):
        for one, other in pairs_of_webs():
            for kind in KINDS:
                self.assertEqual(fewest(beside(one, other), kind), fewest(one, kind) + fewest(other, kind))


class GuidesOfBoth(WithRefusals):
    def check(self, one, guards, other, further, kind):
        paper, more = guide_paper(one, guards, kind), guide_paper(other, further, kind)
        told = guide_beside(one, paper, other, more)
        self.assertIs(type(told), list)
        both = beside(one, other)
        self.assertIs(guide_holds(both, guards + further, kind, told), True)
        wanted = sorted(standing + tuple(place + one.places for place in second)
                        for standing, rows in paper for second, others in more)
        self.assertEqual([standing for standing, rows in told], wanted)

    def test_with_as_many_as_the_fewest_and_with_more(self):
        for one, other in pairs_of_webs():
            for kind in KINDS:
                least, further = fewest(one, kind), fewest(other, kind)
                for guards in range(least, min(one.places, least + 1) + 1):
                    self.check(one, guards, other, further, kind)
                    self.check(other, further, one, guards, kind)

    def test_each_answer_is_that_of_its_web(self):
        one, other = row(2), full(3)
        paper = [((1,), ((0, (0,)),)), ((0,), ((1, (1,)),))]
        more = guide_paper(other, 1, "one")
        told = guide_beside(one, paper, other, more)
        self.assertEqual(told[0], ((0, 2), ((1, (1, 2)), (3, (0, 3)), (4, (0, 4)))))
        self.assertEqual(told[-1], ((1, 4), ((0, (0, 4)), (2, (1, 2)), (3, (1, 3)))))
        self.assertEqual(len(told), 6)

    def test_papers_that_are_not_told_ones(self):
        """Closed lists of two standings, not rising, of the kind all."""
        paper = [((1, 3), ((0, (0, 2)), (2, (0, 2)))), ((0, 2), ((1, (1, 3)), (3, (1, 3))))]
        self.assertTrue(guide_holds(ring(4), 2, "all", paper))
        for other, more in ((ring(4), paper), (bare(1), [((0,), ())]), (row(2), guide_paper(row(2), 1, "all"))):
            for one, first, second, further in ((ring(4), paper, other, more), (other, more, ring(4), paper)):
                told = guide_beside(one, first, second, further)
                guards = len(told[0][0])
                self.assertIs(guide_holds(beside(one, second), guards, "all", told), True)
                self.assertEqual(told, sorted(told))

    def test_large_webs(self):
        ties = [(a, a + 1) for a in range(0, 30, 2)]
        wide = Web(30, ties)
        evens, odds = tuple(range(0, 30, 2)), tuple(range(1, 30, 2))
        paper = [(evens, tuple((call, odds) for call in odds)), (odds, tuple((call, evens) for call in evens))]
        told = guide_beside(wide, paper, wide, paper)
        self.assertIs(guide_holds(beside(wide, wide), 30, "all", told), True)
        self.assertEqual(len(told), 4)

    def test_nothing_is_kept_or_changed(self):
        one, other = ring(4), row(2)
        paper, more = guide_paper(one, 2, "one"), guide_paper(other, 1, "one")
        self.assert_told_anew(lambda: guide_beside(one, paper, other, more))
        self.assertEqual((paper, more), (guide_paper(one, 2, "one"), guide_paper(other, 1, "one")))
        told = guide_beside(one, paper, other, more)
        copy = list(told)
        paper.clear()
        more.reverse()
        self.assertEqual(told, copy)


class CallersOfBoth(WithRefusals):
    def test_with_fewer_guards_and_with_enough(self):
        for one, other in pairs_of_webs():
            both = beside(one, other)
            for kind in KINDS:
                first, second = fewest(one, kind), fewest(other, kind)
                for guards in range(1, both.places + 1):
                    told = caller_beside(one, other, guards, kind)
                    if guards >= first + second:
                        self.assertIsNone(told)
                        continue
                    self.assertIs(type(told), list)
                    self.assertIs(caller_holds(both, guards, kind, told), True)
                    self.assertEqual([entry[0] for entry in told],
                                     list(itertools.combinations(range(both.places), guards)))

    def test_it_is_called_where_there_are_too_few(self):
        for one, other in pairs_of_webs():
            for kind in KINDS:
                first, second = fewest(one, kind), fewest(other, kind)
                for guards in range(1, first + second):
                    for standing, number, call in caller_beside(one, other, guards, kind):
                        ours = tuple(place for place in standing if place < one.places)
                        theirs = tuple(place - one.places for place in standing if place >= one.places)
                        web, few, least, at = ((one, ours, first, call) if call < one.places
                                               else (other, theirs, second, call - one.places))
                        self.assertLess(len(few), least)
                        if few:
                            self.assertIn((few, number, at), caller_paper(web, len(few), kind))
                        else:
                            self.assertEqual(number, 1)

    def test_by_hand(self):
        self.assertEqual(caller_beside(bare(1), bare(1), 1, "one"), [((0,), 1, 1), ((1,), 1, 0)])
        self.assertIsNone(caller_beside(bare(1), bare(1), 2, "all"))
        self.assertEqual(caller_beside(row(3), bare(1), 2, "one"),
                         [((0, 1), 1, 3), ((0, 2), 1, 3), ((0, 3), 1, 2), ((1, 2), 1, 3), ((1, 3), 2, 0),
                          ((2, 3), 1, 0)])

    def test_nothing_is_kept_or_changed(self):
        one, other = ring(4), row(3)
        for kind in KINDS:
            self.assert_told_anew(lambda: caller_beside(one, other, 2, kind))
        self.assertEqual((one.ties, other.ties), (ring(4).ties, row(3).ties))


class ATieMore(WithRefusals):
    def test_each_tie_that_is_not_there(self):
        for web in small_webs(4) + [ring(5), star(5)]:
            for one, other in itertools.product(range(web.places), repeat=2):
                if one == other or near_by(web, one, other):
                    self.assert_refused(BadTie, tied, web, one, other)
                else:
                    told = tied(web, one, other)
                    self.assertIsInstance(told, Web)
                    self.assertEqual(told.places, web.places)
                    self.assertEqual(told.ties, tuple(sorted(web.ties + ((min(one, other), max(one, other)),))))

    def test_places_that_are_not_there(self):
        for web in (bare(1), bare(4), bare(60)):
            for strange in (-1, web.places, web.places + 1, 1000):
                self.assert_refused(BadTie, tied, web, 0, strange)
                self.assert_refused(BadTie, tied, web, strange, 0)
        self.assertEqual(tied(bare(60), 59, 0).ties, ((0, 59),))

    def test_guides_hold_for_the_web_with_a_tie_more(self):
        for web in small_webs(3) + every_web(4)[::5] + in_parts()[:2] + plain_shapes(5)[::2]:
            for one, other in all_ties(web.places):
                if not near_by(web, one, other):
                    more = tied(web, one, other)
                    for kind in KINDS:
                        least = fewest(web, kind)
                        self.assertLessEqual(fewest(more, kind), least)
                        for guards in range(least, web.places + 1):
                            paper = guide_paper(web, guards, kind)
                            self.assertIs(guide_holds(more, guards, kind, paper), True)

    def test_the_web_stays(self):
        web = ring(5)
        told = tied(web, 0, 2)
        self.assertEqual(web.ties, ring(5).ties)
        self.assertIsNot(told, web)


if __name__ == "__main__":
    unittest.main()
