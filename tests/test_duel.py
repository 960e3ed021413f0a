import itertools
import unittest

from example_webs import KINDS, WithRefusals, bare, behind, duel, every_answer, every_web, free_places, full
from example_webs import plain_shapes, ring, row, small_webs, star, with_guards
from guardround.duel import falls, lasting
from guardround.errors import BadGuards, TooLarge
from guardround.webs import Web


def closed(web, listed, kind):
    return all(any(behind(answer) in listed for answer in every_answer(web, standing, call, kind))
               for standing in listed for call in free_places(web, standing))


class LastingAndFalling(unittest.TestCase):
    def test_small_webs_by_rounds(self):
        for web, guards, kind in with_guards(small_webs(4) + every_web(5)[::61] + plain_shapes(6)):
            with self.subTest(ties=web.ties, places=web.places, guards=guards, kind=kind):
                stay, fallen = duel(web, guards, kind)
                told = lasting(web, guards, kind)
                self.assertEqual(told, stay)
                self.assertEqual(falls(web, guards, kind),
                                 [(standing,) + fallen[standing] for standing in sorted(fallen)])

    def test_some_larger_webs_by_rounds(self):
        for web, guards, kind in ((ring(8), 3, "all"), (ring(8), 4, "all"), (ring(8), 4, "one"), (row(8), 4, "one"),
                                  (row(8), 4, "all"), (row(9), 5, "all"), (star(8), 2, "all"), (ring(9), 5, "one")):
            stay, fallen = duel(web, guards, kind)
            self.assertEqual(lasting(web, guards, kind), stay)
            self.assertEqual(falls(web, guards, kind), [(key,) + fallen[key] for key in sorted(fallen)])

    def test_lasting_ones_are_all_closed_lists_together(self):
        for web, guards, kind in with_guards(small_webs(3) + [row(4), ring(4), star(4), bare(4), full(4)]):
            standings = list(itertools.combinations(range(web.places), guards))
            held = set()
            for size in range(len(standings) + 1):
                for listed in itertools.combinations(standings, size):
                    if closed(web, listed, kind):
                        held.update(listed)
            self.assertEqual(lasting(web, guards, kind), sorted(held))

    def test_kinds(self):
        told = lasting(ring(5), 3, "one")
        self.assertIs(type(told), list)
        self.assertTrue(told and all(type(standing) is tuple for standing in told))
        told = falls(ring(5), 2, "one")
        self.assertIs(type(told), list)
        for triple in told:
            self.assertEqual([type(part) for part in triple], [tuple, int, int])
            self.assertIs(type(triple), tuple)

    def test_by_hand(self):
        self.assertEqual(lasting(bare(3), 2, "all"), [])
        self.assertEqual(falls(bare(3), 2, "all"), [((0, 1), 1, 2), ((0, 2), 1, 1), ((1, 2), 1, 0)])
        self.assertEqual(lasting(full(4), 1, "one"), [(0,), (1,), (2,), (3,)])
        self.assertEqual(falls(full(4), 1, "one"), [])
        self.assertEqual(lasting(star(4), 2, "all"), [(0, 3), (1, 3), (2, 3)])
        self.assertEqual(falls(star(4), 2, "all"), [((0, 1), 1, 2), ((0, 2), 1, 1), ((1, 2), 1, 0)])
        self.assertEqual(lasting(star(4), 2, "one"), [])
        self.assertEqual(falls(star(4), 2, "one"), [((0, 1), 1, 2), ((0, 2), 1, 1), ((0, 3), 2, 1), ((1, 2), 1, 0),
                                                    ((1, 3), 2, 0), ((2, 3), 2, 0)])
        self.assertEqual(falls(row(3), 1, "all"), [((0,), 1, 2), ((1,), 2, 0), ((2,), 1, 0)])

    def test_as_many_guards_as_places(self):
        for places in (1, 2, 5, 60):
            for web in (bare(places), full(places)):
                for kind in KINDS:
                    self.assertEqual(lasting(web, places, kind), [tuple(range(places))])
                    self.assertEqual(falls(web, places, kind), [])

    def test_rounds_go_on_without_a_gap_and_lead_down(self):
        for web, guards, kind in ((row(7), 3, "one"), (row(7), 3, "all"), (ring(7), 3, "one"), (star(6), 4, "one")):
            fallen = {standing: (number, call) for standing, number, call in falls(web, guards, kind)}
            rounds = sorted({number for number, call in fallen.values()})
            self.assertEqual(rounds, list(range(1, len(rounds) + 1)))
            for standing, (number, call) in fallen.items():
                ends = [fallen[behind(answer)][0] for answer in every_answer(web, standing, call, kind)]
                self.assertEqual(max(ends, default=0), number - 1)


class TheBound(WithRefusals):
    def assert_both_refuse(self, refusal, web, guards):
        for ask in (lasting, falls):
            for kind in KINDS:
                self.assert_refused(refusal, ask, web, guards, kind)

    def test_too_large(self):
        for places, guards in ((29, 2), (29, 27), (15, 3), (15, 12), (12, 4), (11, 5), (11, 6), (60, 2), (60, 58)):
            for web in (bare(places), full(places)):
                self.assert_both_refuse(TooLarge, web, guards)

    def test_bad_guards_goes_ahead(self):
        for web in (bare(1), ring(5), bare(60), full(60)):
            for guards in (0, -1, web.places + 1, 1000):
                self.assert_both_refuse(BadGuards, web, guards)

    def test_up_to_it(self):
        self.assertEqual(len(falls(bare(28), 2, "all")), 378)
        self.assertEqual(lasting(bare(28), 2, "one"), [])
        self.assertEqual(len(lasting(full(28), 2, "one")), 378)
        self.assertEqual(len(lasting(full(14), 3, "all")), 364)
        self.assertEqual(len(lasting(ring(28), 26, "all")), 378)
        self.assertEqual(len(lasting(full(60), 59, "all")), 60)
        self.assertEqual(falls(bare(60), 59, "all")[:2], [(tuple(range(59)), 1, 59), (tuple(range(58)) + (59,), 1, 58)])
        self.assertEqual(len(lasting(star(60), 59, "one")), 60)
        self.assertEqual(falls(row(60), 1, "one")[-1], ((59,), 1, 0))

    def test_the_ends_of_a_long_row(self):
        """Of all but two places just those two standings fall at whose end two neighbours are free."""
        told = falls(row(28), 26, "all")
        self.assertEqual(told, [(tuple(range(26)), 1, 27), (tuple(range(2, 28)), 1, 0)])


class NothingIsKeptOrChanged(WithRefusals):
    def test_lists_are_told_anew(self):
        web = Web(5, [(0, 1), (1, 2), (3, 4)])
        for ask in (lasting, falls):
            for kind in KINDS:
                self.assert_told_anew(lambda: ask(web, 3, kind))
        self.assertEqual((web.places, web.ties), (5, ((0, 1), (1, 2), (3, 4))))


if __name__ == "__main__":
    unittest.main()
