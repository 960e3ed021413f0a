import itertools
import unittest

from example_webs import WithRefusals, bare, behind, every_answer, every_set, free_places, full, parting, partitions
from example_webs import plain_shapes, ring, row, small_webs, stands_apart, star
from guardround.errors import NoCall
from guardround.roads import apart_call, club_answer
from guardround.webs import Web


def club_partings(web):
    return [clubs for clubs in partitions(tuple(range(web.places))) if parting(web, clubs)]


class WithinClubs(WithRefusals):
    def test_each_standing_and_call_of_small_webs(self):
        for web in small_webs(4) + plain_shapes(5):
            for clubs in club_partings(web):
                for chosen in itertools.product(*clubs):
                    standing = tuple(sorted(chosen))
                    for call in free_places(web, standing):
                        told = club_answer(web, clubs, standing, call)
                        self.assertIs(type(told), tuple)
                        self.assertIn(told, every_answer(web, standing, call, "one"))
                        club = [some for some in clubs if call in some][0]
                        going = [guard for guard, place in zip(standing, told) if guard != place]
                        self.assertTrue(len(going) == 1 and going[0] in club)
                        self.assertTrue(all(sum(place in some for place in told) == 1 for some in clubs))

    def test_by_hand(self):
        web = Web(5, [(0, 3), (1, 4), (0, 4), (1, 2), (2, 4)])
        clubs = [(0, 3), (1, 2, 4)]
        self.assertEqual(club_answer(web, clubs, (1, 3), 0), (1, 0))
        self.assertEqual(club_answer(web, clubs, (0, 4), 1), (0, 1))
        self.assertEqual(club_answer(web, clubs, (0, 4), 2), (0, 2))
        self.assertEqual(club_answer(full(60), [tuple(range(60))], (7,), 59), (59,))

    def test_calls_that_are_none(self):
        for call in (-1, 4, 5, 1000, 0, 2):
            self.assert_refused(NoCall, club_answer, ring(4), [(0, 1), (2, 3)], (0, 2), call)
        self.assert_refused(NoCall, club_answer, bare(2), [(0,), (1,)], (0, 1), 1)

    def test_nothing_is_changed(self):
        clubs = [(0, 1), (2, 3)]
        web = ring(4)
        self.assertEqual(club_answer(web, clubs, (0, 2), 3), (0, 3))
        self.assertEqual(club_answer(web, clubs, (0, 2), 3), (0, 3))
        self.assertEqual((clubs, web.places, web.ties), ([(0, 1), (2, 3)], 4, ring(4).ties))


class CallsFromASetApart(unittest.TestCase):
    def test_the_least_place_without_a_guard(self):
        for web in small_webs(3) + [ring(5), star(5), bare(5)]:
            for some in every_set(web.places):
                if stands_apart(web, some):
                    for standing in every_set(web.places)[1:]:
                        left = [place for place in some if place not in standing]
                        self.assertEqual(apart_call(web, some, standing), min(left, default=None))

    def test_fewer_guards_are_beaten(self):
        for web in small_webs(4) + plain_shapes(6):
            for some in every_set(web.places)[1:]:
                if stands_apart(web, some):
                    for guards in range(1, len(some)):
                        for standing in itertools.combinations(range(web.places), guards):
                            self.beat(web, some, standing, len(some))

    def beat(self, web, some, standing, left):
        """However the guards answer, with each call one more of them stands in the set."""
        call = apart_call(web, some, standing)
        self.assertIsNotNone(call)
        self.assertGreater(left, 0)
        for answer in every_answer(web, standing, call, "one"):
            held = [place for place in standing if place in some]
            self.assertEqual(len([place for place in behind(answer) if place in some]), len(held) + 1)
            self.beat(web, some, behind(answer), left - 1)

    def test_large_webs(self):
        self.assertEqual(apart_call(row(60), tuple(range(0, 60, 2)), tuple(range(0, 58, 2))), 58)
        self.assertIsNone(apart_call(row(60), tuple(range(0, 60, 2)), tuple(range(59))))
        self.assertIsNone(apart_call(row(60), (), (0,)))


if __name__ == "__main__":
    unittest.main()
