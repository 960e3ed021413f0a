import itertools
import unittest

from example_webs import WithRefusals, answers_rightly, bare, behind, club, every_answer, every_set, every_web
from example_webs import free_places, full, grid, partitions, plain_shapes, ring, row, small_webs, star, tied, watches
from example_webs import ways
from guardround.colonies import colony_answer, first_standing, guards_of, looked
from guardround.errors import BadColony, NoCall
from guardround.webs import Web, web_within


def subsets(some):
    return [inner for size in range(len(some) + 1) for inner in itertools.combinations(some, size)]


def together(web, inner):
    """Each two of them have a way that keeps to them."""
    within = Web(web.places, [tie for tie in web.ties if tie[0] in inner and tie[1] in inner])
    return all(ways(within, [inner[0]], other) for other in inner)


def right_colony(web, some, inner):
    if not inner:
        return club(web, some)
    return (set(inner) < set(some) and together(web, inner) and all(watches(web, inner, place) for place in some))


def every_colonies(web):
    told = []
    for sets in partitions(tuple(range(web.places))):
        choices = [[(some, inner) for inner in subsets(some) if right_colony(web, some, inner)] for some in sets]
        told.extend(list(chosen) for chosen in itertools.product(*choices))
    return told


def standings_of(colonies):
    choices = [[inner + (place,) for place in some if place not in inner] for some, inner in colonies]
    return [tuple(sorted(sum(chosen, ()))) for chosen in itertools.product(*choices)]


def answer_by_hand(web, colonies, standing, call):
    some, inner = [colony for colony in colonies if call in colony[0]][0]
    extra = [place for place in standing if place in some and place not in inner][0]
    kept = inner + (extra, call)
    within = Web(web.places, [tie for tie in web.ties if tie[0] in kept and tie[1] in kept])
    way = min(ways(within, [extra], call), key=lambda told: (len(told), told))
    return tuple(way[way.index(guard) + 1] if guard in way else guard for guard in standing)


class LookedAt(WithRefusals):
    def test_every_list_of_small_webs(self):
        """All partings into sets, each with any set of the web's places as its inner one."""
        for web in small_webs(3) + [row(4), ring(4), star(4), full(4), Web(4, [(0, 2), (1, 3)])]:
            for sets in partitions(tuple(range(web.places))):
                if len(sets) > 2 and web.places > 3:
                    continue
                for inners in itertools.product(every_set(web.places), repeat=len(sets)):
                    colonies = list(zip(sets, inners))
                    if all(right_colony(web, some, inner) for some, inner in colonies):
                        self.assertIsNone(looked(web, colonies))
                        self.assertIsNone(looked(web, colonies[::-1]))
                    else:
                        self.assert_refused(BadColony, looked, web, colonies)

    def test_what_fails_by_one_thing_alone(self):
        web = Web(8, [(0, 1), (1, 2), (2, 3), (0, 4), (1, 4), (5, 6), (3, 7), (6, 7)])
        right = [((0, 1, 2, 3, 4), (1, 2)), ((5, 6), ()), ((7,), ())]
        self.assertIsNone(looked(web, right))
        for why, colonies in (
            ("a place missing", right[:2]),
            ("a place missing within one", [((0, 1, 2, 3), (1, 2))] + right[1:]),
            ("a place in two of them", right[:2] + [((6, 7), ())]),
            ("one of them twice", right + right[2:]),
            ("a place that the web has not", right + [((8,), ())]),
            ("a far place in one", right[:2] + [((7, 10 ** 40), ())]),
            ("a place below nought", [((-1,), ())] + right),
            ("a place below nought in inner", [((0, 1, 2, 3, 4), (-7, 1, 2))] + right[1:]),
            ("a far place in inner", [((0, 1, 2, 3, 4), (1, 2, 60))] + right[1:]),
            ("an empty some", right + [((), ())]),
            ("an empty some with an inner", right + [((), (1,))]),
            ("no club", [((0, 1, 2, 3, 4), (1, 2)), ((5, 6, 7), ())]),
            ("a pair that is no club", [((0, 1, 2, 3, 4), (1, 2)), ((5, 7), ()), ((6,), ())]),
            ("inner is all", [((0, 1, 2, 3, 4), (0, 1, 2, 3, 4))] + right[1:]),
            ("inner is all of one place", right[:2] + [((7,), (7,))]),
            ("inner lies not within", right[:1] + [((5, 6), (7,)), ((7,), ())]),
            ("inner lies in part not within", right[:1] + [((5, 6), (6, 7)), ((7,), ())]),
            ("inner does not hang together", [((0, 1, 2, 3, 4), (0, 2))] + right[1:]),
            ("inner hangs together only by a place of some", [((0, 1, 2, 3, 4), (1, 3))] + right[1:]),
            ("inner does not watch each place", [((0, 1, 2, 3, 4), (0, 1))] + right[1:]),
            ("none", []),
            ("an empty one alone", [((), ())]),
        ):
            with self.subTest(why):
                self.assert_refused(BadColony, looked, web, colonies)

    def test_others_that_are(self):
        web = Web(8, [(0, 1), (1, 2), (2, 3), (0, 4), (1, 4), (5, 6), (3, 7), (6, 7)])
        for colonies in (
            [((7,), ()), ((5, 6), ()), ((0, 1, 2, 3, 4), (1, 2))],
            [((0, 1, 4), ()), ((2, 3), ()), ((5, 6), ()), ((7,), ())],
            [((0, 1, 4), (0,)), ((2, 3), (3,)), ((5, 6, 7), (6,))],
            [((0, 1, 2, 3, 4, 5, 6, 7), (1, 2, 3, 6, 7))],
            [((place,), ()) for place in range(8)],
        ):
            self.assertIsNone(looked(web, colonies))

    def test_large_webs(self):
        self.assertIsNone(looked(row(60), [(tuple(range(60)), tuple(range(1, 59)))]))
        self.assert_refused(BadColony, looked, row(60), [(tuple(range(60)), tuple(range(1, 58)))])
        self.assertIsNone(looked(full(60), [(tuple(range(60)), ())]))
        self.assertIsNone(looked(bare(60), [((place,), ()) for place in range(60)]))
        self.assertIsNone(looked(star(60), [(tuple(range(60)), (59,))]))

    def test_what_is_handed_in_stays(self):
        colonies = [((2, 3), ()), ((0, 1), (0,))]
        web = ring(4)
        self.assertIsNone(looked(web, colonies))
        self.assertEqual(colonies, [((2, 3), ()), ((0, 1), (0,))])
        self.assertEqual((web.places, web.ties), (4, ring(4).ties))
        colonies.pop()
        self.assert_refused(BadColony, looked, web, colonies)


class TheirGuards(WithRefusals):
    def webs(self):
        return small_webs(4)[::2] + plain_shapes(5) + every_web(5)[::171] + [grid(3, 2)]

    def test_how_many_and_where_at_first(self):
        for web in self.webs():
            for colonies in every_colonies(web):
                guards = guards_of(colonies)
                self.assertEqual(guards, sum(len(inner) + 1 if inner else 1 for some, inner in colonies))
                first = first_standing(web, colonies)
                self.assertIs(type(first), tuple)
                self.assertEqual(first, standings_of(colonies)[0] if len(colonies) == 1 else tuple(sorted(
                    place for some, inner in colonies
                    for place in inner + (min(set(some) - set(inner)),))))
                self.assertEqual(len(first), guards)
                self.assertIn(first, standings_of(colonies))

    def test_answers_at_each_standing_and_call(self):
        for web in self.webs():
            for colonies in every_colonies(web)[::3]:
                standings = standings_of(colonies)
                for standing in standings:
                    for call in free_places(web, standing):
                        told = colony_answer(web, colonies, standing, call)
                        self.assertIs(type(told), tuple)
                        self.assertEqual(told, answer_by_hand(web, colonies, standing, call))
                        self.assertTrue(answers_rightly(web, standing, call, "all", told))
                        self.assertIn(behind(told), standings)

    def test_the_guards_of_other_colonies_stay(self):
        web = Web(7, [(0, 1), (1, 2), (2, 3), (4, 5), (3, 6), (2, 6)])
        colonies = [((4, 5), ()), ((0, 1, 2, 3, 6), (1, 2))]
        self.assertEqual(guards_of(colonies), 4)
        self.assertEqual(first_standing(web, colonies), (0, 1, 2, 4))
        self.assertEqual(colony_answer(web, colonies, (0, 1, 2, 4), 3), (1, 2, 3, 4))
        self.assertEqual(colony_answer(web, colonies, (0, 1, 2, 4), 5), (0, 1, 2, 5))
        self.assertEqual(colony_answer(web, colonies, (1, 2, 3, 5), 6), (1, 2, 6, 5))
        self.assertEqual(colony_answer(web, colonies, (1, 2, 6, 5)[:2] + (5, 6), 0), (0, 1, 5, 2))

    def test_the_first_of_the_shortest_ways_within(self):
        """Between 4 and 5 two ways as short lead through the inner places, and a shorter one outside of them."""
        web = Web(7, [(4, 0), (0, 2), (2, 5), (4, 1), (1, 3), (3, 5), (0, 1), (4, 6), (6, 5)])
        colonies = [((0, 1, 2, 3, 4, 5, 6), (0, 1, 2, 3))]
        self.assert_refused(BadColony, looked, web, colonies)
        colonies = [((0, 1, 2, 3, 4, 5), (0, 1, 2, 3)), ((6,), ())]
        self.assertIsNone(looked(web, colonies))
        self.assertEqual(colony_answer(web, colonies, (0, 1, 2, 3, 4, 6), 5), (2, 1, 5, 3, 0, 6))
        self.assertEqual(colony_answer(web, colonies, (0, 1, 2, 3, 5, 6), 4), (4, 1, 0, 3, 2, 6))

    def test_the_call_near_the_one_more(self):
        web = Web(4, [(0, 1), (1, 2), (2, 3), (0, 3), (0, 2)])
        self.assertEqual(colony_answer(web, [((0, 1, 2, 3), (1, 2))], (0, 1, 2), 3), (3, 1, 2))

    def test_large_webs(self):
        colonies = [(tuple(range(60)), tuple(range(1, 59)))]
        self.assertEqual(guards_of(colonies), 59)
        self.assertEqual(first_standing(row(60), colonies), tuple(range(59)))
        self.assertEqual(colony_answer(row(60), colonies, tuple(range(59)), 59), tuple(range(1, 60)))
        self.assertEqual(colony_answer(row(60), colonies, tuple(range(1, 60)), 0), tuple(range(59)))
        self.assertEqual(first_standing(star(60), [(tuple(range(60)), (59,))]), (0, 59))
        self.assertEqual(colony_answer(star(60), [(tuple(range(60)), (59,))], (7, 59), 3), (59, 3))
        self.assertEqual(colony_answer(full(60), [(tuple(range(60)), ())], (7,), 3), (3,))

    def test_calls_that_are_none(self):
        colonies = [((0, 1), ()), ((2, 3, 4), (3,))]
        for call in (-1, 5, 6, 1000, 0, 2, 3):
            self.assert_refused(NoCall, colony_answer, row(5), colonies, (0, 2, 3), call)
        self.assertEqual(colony_answer(row(5), colonies, (0, 2, 3), 4), (0, 3, 4))

    def test_what_is_handed_in_stays(self):
        colonies = [((2, 3, 4), (3,)), ((0, 1), ())]
        before = list(colonies)
        web = row(5)
        first = [guards_of(colonies), first_standing(web, colonies), colony_answer(web, colonies, (0, 2, 3), 4)]
        self.assertEqual(first, [3, (0, 2, 3), (0, 3, 4)])
        self.assertEqual(first, [guards_of(colonies), first_standing(web, colonies),
                                 colony_answer(web, colonies, (0, 2, 3), 4)])
        self.assertEqual((colonies, web.places, web.ties), (before, 5, row(5).ties))


class WordsOfTheDocument(unittest.TestCase):
    def test_the_reading(self):
        web = row(4)
        self.assertTrue(right_colony(web, (0, 1, 2, 3), (1, 2)))
        self.assertFalse(right_colony(web, (0, 1, 2, 3), (1,)))
        self.assertFalse(right_colony(web, (0, 1, 2), ()))
        self.assertTrue(together(web, (1, 2, 3)) and not together(web, (1, 3)))
        self.assertEqual(every_answer(web, (0, 1, 2), 3, "all")[-1], (1, 2, 3))
        self.assertTrue(tied(web, 1, 2))
        self.assertEqual(web_within(web, (1, 2)).ties, ((0, 1),))
        self.assertEqual(len(every_colonies(bare(3))), 1)


if __name__ == "__main__":
    unittest.main()
