import itertools
import unittest

from example_webs import WithRefusals, answers_rightly, bare, behind, duel, every_web, free_places, full, in_parts
from example_webs import plain_shapes, ring, row, sixties, small_webs, star, tied, ways
from guardround.colonies import colony_answer, first_standing, guards_of, looked
from guardround.errors import NotWood
from guardround.fewest import fewest
from guardround.webs import Web, parts_of
from guardround.woods import is_wood, wood_colonies


def wood_by_ways(web):
    return all(len(ways(web, [one], other)) <= 1 for one in range(web.places) for other in range(web.places))


def hung(nearer):
    """The wood in which each place from 1 on is tied to a told one ahead of it, or to none."""
    return Web(len(nearer) + 1, [(one, at) for at, one in enumerate(nearer, start=1) if one is not None])


def shape_of(web, place, ahead):
    return "(" + "".join(sorted(shape_of(web, other, place) for other in range(web.places)
                                if other != ahead and tied(web, place, other))) + ")"


def trees(places):
    """One tree of each shape."""
    told = {}
    for nearer in itertools.product(*[range(at) for at in range(1, places)]):
        web = hung(nearer)
        told.setdefault(min(shape_of(web, place, None) for place in range(places)), web)
    return list(told.values())


def woods(places):
    """One wood of each shape, of one part or several."""
    told = {}
    for nearer in itertools.product(*[[None] + list(range(at)) for at in range(1, places)]):
        web = hung(nearer)
        shapes = [min(shape_of(web, place, None) for place in part) for part in parts_of(web)]
        told.setdefault(tuple(sorted(shapes)), web)
    return list(told.values())


def turned(web, step):
    """The same wood with its places numbered otherwise."""
    numbers = sorted(range(web.places), key=lambda place: ((place * step + 3) % 61, place))
    return Web(web.places, [(numbers[one], numbers[other]) for one, other in web.ties])


def by_cutting(web):
    """The fewest of the kind all, another way: cut off what hangs on one place, a guard for each cut.

    Of a place with two leaves or more, and one further place, the leaves are cut; of a place with one leaf and one
    further place both are; a star that is left has two guards, one or two places have one.
    """
    left = {place: {other for other in range(web.places) if tied(web, place, other)} for place in range(web.places)}
    guards = 0

    def cut(place):
        for other in left.pop(place):
            left[other].discard(place)

    while True:
        for place in sorted(left):
            leaves = [other for other in left[place] if len(left[other]) == 1]
            if leaves and len(left[place]) - len(leaves) == 1:
                for leaf in leaves:
                    cut(leaf)
                if len(leaves) == 1:
                    cut(place)
                guards += 1
                break
        else:
            break
    while left:
        middle = max(sorted(left), key=lambda place: len(left[place]))
        guards += 2 if len(left[middle]) > 1 else 1
        for place in [middle] + sorted(left[middle]):
            cut(place)
    return guards


def woods_of_sixty():
    nearer = [
        [at for at in range(59)],
        [0] * 59,
        [None] * 59,
        [at // 2 for at in range(59)],
        [at // 3 for at in range(59)],
        [at // 3 * 3 if at % 3 else max(at - 3, 0) for at in range(59)],
        [at // 4 * 4 if at % 4 else max(at - 4, 0) for at in range(59)],
        [0 if at % 5 == 0 else at for at in range(59)],
        [None if at % 7 == 0 else at // 2 for at in range(59)],
        [None if at % 11 == 0 else max(0, at - at % 5) for at in range(59)],
    ]
    nearer += [[(at * at + step * at) % (at + 1) for at in range(59)] for step in range(1, 8)]
    woods = [hung(one) for one in nearer]
    return woods + [turned(web, step) for web in woods for step in (2, 17)]


class WhatIsAWood(unittest.TestCase):
    def test_small_webs(self):
        for web in small_webs(4) + every_web(5)[::5] + plain_shapes(6):
            self.assertIs(is_wood(web), wood_by_ways(web))

    def test_large_webs(self):
        for web in woods_of_sixty():
            self.assertIs(is_wood(web), True)
        for web in (ring(60), full(60), Web(60, [(57, 58), (58, 59), (57, 59)])) + tuple(sixties()[1]):
            self.assertIs(is_wood(web), False)
        self.assertIs(is_wood(bare(1)), True)


class ColoniesOfWoods(WithRefusals):
    def check(self, web):
        told = wood_colonies(web)
        self.assertIs(type(told), list)
        for some, inner in told:
            self.assertEqual([type(some), type(inner)], [tuple, tuple])
            self.assertEqual([list(some), list(inner)], [sorted(set(some)), sorted(set(inner))])
        self.assertTrue(all(type(colony) is tuple for colony in told))
        self.assertIsNone(looked(web, told))
        leasts = [some[0] for some, inner in told]
        self.assertEqual(leasts, sorted(leasts))
        return told

    def test_all_small_woods_by_rounds(self):
        for web in small_webs(4) + every_web(5):
            if is_wood(web):
                guards = guards_of(self.check(web))
                self.assertTrue(duel(web, guards, "all")[0])
                self.assertTrue(guards == 1 or not duel(web, guards - 1, "all")[0])

    def test_all_trees_of_up_to_eight_places(self):
        self.assertEqual([len(trees(places)) for places in range(1, 9)], [1, 1, 1, 2, 3, 6, 11, 23])
        for places in range(1, 9):
            for web in trees(places):
                for one in (web, turned(web, 7), turned(web, 23)):
                    self.assertEqual(guards_of(self.check(one)), fewest(one, "all"), one.ties)
                self.assertEqual(by_cutting(web), fewest(web, "all"), web.ties)

    def test_all_woods_of_up_to_seven_places(self):
        self.assertEqual([len(woods(places)) for places in range(1, 8)], [1, 2, 3, 6, 10, 20, 37])
        for places in range(1, 8):
            for web in woods(places):
                self.assertEqual(guards_of(self.check(web)), fewest(web, "all"), web.ties)
                self.assertEqual(by_cutting(web), fewest(web, "all"), web.ties)

    def test_woods_of_several_parts(self):
        for web in [bare(8), Web(8, [(0, 4), (4, 7), (1, 5), (2, 6)]), Web(7, [(6, 0), (1, 5), (5, 3), (5, 2)]),
                    Web(8, [(0, 7), (1, 7), (2, 7), (3, 6), (4, 6), (5, 6)])] + in_parts()[:2]:
            self.assertEqual(guards_of(self.check(web)), fewest(web, "all"))

    def test_woods_of_sixty_places(self):
        for web in woods_of_sixty():
            self.assertEqual(guards_of(self.check(web)), by_cutting(web), web.ties)

    def test_known_shapes(self):
        for places in range(3, 61):
            self.assertEqual(guards_of(wood_colonies(row(places))), -(-places // 2))
            self.assertEqual(guards_of(wood_colonies(star(places))), 2)
            self.assertEqual(guards_of(wood_colonies(bare(places))), places)
        self.assertEqual(wood_colonies(star(5)), [((0, 1, 2, 3, 4), (4,))])
        self.assertEqual(wood_colonies(row(2)), [((0, 1), ())])
        self.assertEqual(wood_colonies(bare(1)), [((0,), ())])

    def test_their_guards_answer(self):
        for web in woods_of_sixty():
            colonies = wood_colonies(web)
            standing = first_standing(web, colonies)
            self.assertEqual(len(standing), guards_of(colonies))
            for turn in range(40):
                calls = free_places(web, standing)
                if calls:
                    call = calls[(turn * turn * 7 + turn) % len(calls)]
                    told = colony_answer(web, colonies, standing, call)
                    self.assertTrue(answers_rightly(web, standing, call, "all", told))
                    standing = behind(told)

    def test_refused(self):
        for web in [ring(3), ring(8), full(4), ring(60), Web(5, [(0, 1), (2, 3), (3, 4), (2, 4)])] + in_parts()[2:]:
            self.assert_refused(NotWood, wood_colonies, web)


class NothingIsKeptOrChanged(WithRefusals):
    def test_lists_are_told_anew(self):
        for web in (row(7), star(5), bare(3), hung([0, 0, 1, 1, 2, 2])):
            before = (web.places, web.ties)
            self.assert_told_anew(lambda: wood_colonies(web))
            self.assertEqual((web.places, web.ties), before)


if __name__ == "__main__":
    unittest.main()
