import unittest

from example_webs import KINDS, WithRefusals, bare, behind, duel, every_answer, every_web, free_places, full
from example_webs import plain_shapes, ring, row, small_webs, star, with_guards
from guardround.duel import falls, lasting
from guardround.errors import BadGuards, TooLarge
from guardround.papers import caller_paper, guide_paper
from guardround.webs import Web


def guide_by_hand(web, guards, kind):
    stay, fallen = duel(web, guards, kind)
    if not stay:
        return None
    return [(standing, tuple((call, min(answer for answer in every_answer(web, standing, call, kind)
                                        if behind(answer) in stay))
                             for call in free_places(web, standing))) for standing in stay]


def caller_by_hand(web, guards, kind):
    stay, fallen = duel(web, guards, kind)
    return None if stay else [(standing,) + fallen[standing] for standing in sorted(fallen)]


class Papers(unittest.TestCase):
    def test_small_webs(self):
        for web, guards, kind in with_guards(small_webs(4) + every_web(5)[::83] + plain_shapes(5)):
            with self.subTest(ties=web.ties, places=web.places, guards=guards, kind=kind):
                guide = guide_paper(web, guards, kind)
                caller = caller_paper(web, guards, kind)
                self.assertEqual(guide, guide_by_hand(web, guards, kind))
                self.assertEqual(caller, caller_by_hand(web, guards, kind))
                self.assertEqual(guide is None, caller is not None)

    def test_some_larger_webs(self):
        for web, guards, kind in ((ring(7), 3, "all"), (ring(7), 4, "one"), (row(7), 4, "all"), (star(7), 2, "all"),
                                  (full(6), 3, "all"), (star(6), 5, "one"), (row(7), 3, "all"), (ring(8), 3, "all")):
            self.assertEqual(guide_paper(web, guards, kind), guide_by_hand(web, guards, kind))
            self.assertEqual(caller_paper(web, guards, kind), caller_by_hand(web, guards, kind))

    def test_the_first_answer_is_not_always_one_that_lasts(self):
        """At the star's middle and one end the first answers to an end would leave the middle."""
        paper = dict(guide_paper(star(4), 2, "all"))
        self.assertEqual(paper[(1, 3)], ((0, (3, 0)), (2, (3, 2))))
        self.assertEqual(every_answer(star(4), (1, 3), 0, "all")[0], (1, 0))

    def test_kinds(self):
        guide = guide_paper(ring(5), 3, "all")
        self.assertIs(type(guide), list)
        for pair in guide:
            self.assertIs(type(pair), tuple)
            self.assertEqual([type(part) for part in pair], [tuple, tuple])
            for row_of_it in pair[1]:
                self.assertEqual([type(part) for part in row_of_it], [int, tuple])
                self.assertIs(type(row_of_it), tuple)
        caller = caller_paper(ring(5), 2, "one")
        self.assertIs(type(caller), list)
        for triple in caller:
            self.assertIs(type(triple), tuple)
            self.assertEqual([type(part) for part in triple], [tuple, int, int])

    def test_as_many_guards_as_places(self):
        for places in (1, 4, 60):
            for kind in KINDS:
                self.assertEqual(guide_paper(bare(places), places, kind), [(tuple(range(places)), ())])
                self.assertIsNone(caller_paper(bare(places), places, kind))

    def test_one_guard(self):
        self.assertEqual(guide_paper(full(3), 1, "one"), [((0,), ((1, (1,)), (2, (2,)))), ((1,), ((0, (0,)), (2, (2,)))),
                                                          ((2,), ((0, (0,)), (1, (1,))))])
        self.assertEqual(caller_paper(row(3), 1, "one"), [((0,), 1, 2), ((1,), 2, 0), ((2,), 1, 0)])

    def test_large_webs(self):
        for web, guards in ((full(28), 2), (ring(28), 26), (full(60), 59), (star(60), 59)):
            paper = dict(guide_paper(web, guards, "all"))
            self.assertEqual(list(paper), lasting(web, guards, "all"))
            for standing, rows in paper.items():
                self.assertEqual([call for call, answer in rows], free_places(web, standing))
                for call, answer in rows:
                    self.assertTrue(call in answer and behind(answer) in paper)
                    self.assertTrue(all(a == b or (min(a, b), max(a, b)) in web.ties for a, b in zip(standing, answer)))
            self.assertIsNone(caller_paper(web, guards, "all"))
        self.assertEqual(guide_paper(full(60), 59, "all")[0], (tuple(range(59)), ((59, tuple(range(58)) + (59,)),)))
        self.assertEqual(caller_paper(row(28), 2, "all"), falls(row(28), 2, "all"))


class TheBound(WithRefusals):
    def assert_both_refuse(self, refusal, web, guards):
        for ask in (guide_paper, caller_paper):
            for kind in KINDS:
                self.assert_refused(refusal, ask, web, guards, kind)

    def test_refusals(self):
        self.assert_both_refuse(TooLarge, bare(29), 2)
        self.assert_both_refuse(TooLarge, full(60), 58)
        for web in (bare(1), ring(5), full(60)):
            for guards in (0, -1, web.places + 1):
                self.assert_both_refuse(BadGuards, web, guards)


class NothingIsKeptOrChanged(WithRefusals):
    def test_lists_are_told_anew(self):
        web = Web(5, [(0, 1), (1, 2), (3, 4)])
        for ask, guards in ((guide_paper, 4), (caller_paper, 2)):
            for kind in KINDS:
                self.assert_told_anew(lambda: ask(web, guards, kind))
        self.assertEqual((web.places, web.ties), (5, ((0, 1), (1, 2), (3, 4))))


if __name__ == "__main__":
    unittest.main()
