import itertools
import unittest

from example_webs import KINDS, WithRefusals, bare, every_answer, every_move, every_standing, every_web, free_places
from example_webs import full, grid, in_parts, plain_shapes, ring, row, small_webs, star
from guardround.answers import answers, is_answer, leads
from guardround.errors import NoCall
from guardround.webs import Web


def chosen_webs():
    return small_webs(4) + every_web(5)[::97] + plain_shapes(5)


def with_calls(webs):
    return [(web, standing, call) for web in webs for standing in every_standing(web)
            for call in free_places(web, standing)]


class Answers(WithRefusals):
    def test_all_of_small_webs(self):
        for web, standing, call in with_calls(chosen_webs()):
            for kind in KINDS:
                told = answers(web, standing, call, kind)
                self.assertIs(type(told), list)
                self.assertTrue(all(type(answer) is tuple for answer in told))
                self.assertEqual(told, every_answer(web, standing, call, kind), (web.ties, standing, call, kind))

    def test_of_one_as_many_as_guards_near_the_call(self):
        for web, standing, call in with_calls(chosen_webs()):
            beside = [guard for guard in standing if (min(guard, call), max(guard, call)) in web.ties]
            self.assertEqual(len(answers(web, standing, call, "one")), len(beside))

    def test_by_hand(self):
        web = row(4)
        self.assertEqual(answers(web, (0, 2), 1, "one"), [(0, 1), (1, 2)])
        self.assertEqual(answers(web, (0, 2), 1, "all"), [(0, 1), (1, 2), (1, 3)])
        self.assertEqual(answers(web, (0, 1), 3, "one"), [])
        self.assertEqual(answers(web, (0, 1), 3, "all"), [])
        self.assertEqual(answers(web, (0, 1), 2, "all"), [(0, 2), (1, 2)])

    def test_guards_keep_the_standings_order(self):
        self.assertEqual(answers(ring(4), (1, 3), 0, "one"), [(0, 3), (1, 0)])
        self.assertEqual(answers(ring(4), (0, 1), 2, "all"), [(0, 2), (1, 2), (3, 2)])

    def test_guards_may_change_places(self):
        self.assertIn((1, 0, 3), answers(row(4), (0, 1, 2), 3, "all"))

    def test_no_guard_comes_near(self):
        for web in (bare(5), Web(5, [(0, 1), (2, 3)])):
            for kind in KINDS:
                self.assertEqual(answers(web, (0, 1, 2), 4, kind), [])

    def test_large_webs(self):
        self.assertEqual(answers(bare(60), tuple(range(59)), 59, "all"), [])
        everything_else = tuple(range(59))
        self.assertEqual(len(answers(star(60), everything_else, 59, "all")), 59)
        self.assertEqual(answers(star(60), everything_else, 59, "one")[0], tuple(range(58)) + (59,))
        self.assertEqual(answers(full(60), (30,), 4, "all"), [(4,)])
        far = Web(60, [(place, place + 1) for place in range(57)])
        self.assertEqual(answers(far, tuple(range(0, 58, 2)), 59, "all"), [])
        self.assertEqual(len(answers(full(60), (0, 1), 2, "all")), 2 * 59)

    def test_calls_that_are_none(self):
        for web in (bare(3), ring(5), full(60)):
            for standing in ((0,), (0, 2), tuple(range(web.places))):
                for call in (-1, -web.places, web.places, web.places + 1, 1000) + standing:
                    for kind in KINDS:
                        self.assert_refused(NoCall, answers, web, standing, call, kind)


class WhatIsAnAnswer(unittest.TestCase):
    def test_all_tuples_of_small_webs(self):
        for web, standing, call in with_calls(small_webs(3) + [row(4), ring(4), star(4), full(4), bare(4)]):
            for length in range(len(standing) + 2):
                for told in itertools.product(range(-1, web.places + 1), repeat=length):
                    for kind in KINDS:
                        wanted = told in every_answer(web, standing, call, kind)
                        self.assertIs(is_answer(web, standing, call, kind, told), wanted)

    def test_what_fails_by_one_thing_alone(self):
        web = Web(6, [(0, 1), (1, 2), (2, 3), (3, 4), (4, 5)])
        standing = (1, 3)
        for why, told, kinds in (
            ("an answer of both", (1, 2), ["one", "all"]),
            ("another one", (2, 3), ["one", "all"]),
            ("two guards go", (0, 2), ["all"]),
            ("two guards go, and turn about", (2, 4), ["all"]),
            ("no guard at the call", (0, 3), []),
            ("all stay", (1, 3), []),
            ("two at one place", (2, 2), []),
            ("a step too far", (1, 5), []),
            ("a step too far beside the call", (2, 5), []),
            ("in another order", (3, 2), []),
            ("a guard too few", (2,), []),
            ("a guard too many", (1, 2, 3), []),
            ("none", (), []),
            ("a place that is not there", (2, 6), []),
            ("a place below nought", (-1, 2), []),
            ("a far place", (2, 10 ** 30), []),
        ):
            for kind in KINDS:
                with self.subTest(why, kind=kind):
                    self.assertIs(is_answer(web, standing, 2, kind, told), kind in kinds)

    def test_large_webs(self):
        web = ring(60)
        odd = tuple(range(1, 60, 2))
        even = tuple(range(0, 60, 2))
        self.assertIs(is_answer(web, odd, 0, "all", even), True)
        self.assertIs(is_answer(web, odd, 0, "one", even), False)
        self.assertIs(is_answer(web, odd, 0, "one", (0,) + odd[1:]), True)
        self.assertIs(is_answer(web, odd, 0, "all", (0,) + odd[1:]), True)


class Leading(unittest.TestCase):
    def test_small_webs(self):
        for web in chosen_webs() + in_parts()[:2]:
            for standing in every_standing(web):
                firsts = {}
                for told in sorted(every_move(web, standing)):
                    firsts.setdefault(tuple(sorted(told)), told)
                for other in itertools.combinations(range(web.places), len(standing)):
                    told = leads(web, standing, other)
                    self.assertEqual(told, firsts.get(other), (web.ties, standing, other))
                    self.assertIn(type(told), (tuple, type(None)))

    def test_to_itself_and_back(self):
        for web in chosen_webs():
            for standing in every_standing(web):
                self.assertIsNotNone(leads(web, standing, standing))
                for other in itertools.combinations(range(web.places), len(standing)):
                    there = leads(web, standing, other)
                    self.assertEqual(there is None, leads(web, other, standing) is None)

    def test_the_first_is_told(self):
        self.assertEqual(leads(full(5), (0, 4), (0, 4)), (0, 4))
        self.assertEqual(leads(full(5), (2, 3), (0, 3)), (0, 3))
        self.assertEqual(leads(row(3), (1, 2), (0, 1)), (0, 1))
        self.assertEqual(leads(ring(4), (1, 2), (1, 2)), (1, 2))
        self.assertEqual(leads(ring(4), (2, 3), (1, 2)), (1, 2))
        self.assertEqual(leads(Web(3, [(0, 2), (1, 2)]), (1, 2), (0, 1)), (1, 0))

    def test_not_where_one_guard_finds_no_place(self):
        self.assertIsNone(leads(bare(3), (0, 1), (0, 2)))
        self.assertIsNone(leads(star(5), (0, 1), (2, 3)))
        self.assertIsNone(leads(star(5), (0, 1), (1, 2)))
        self.assertEqual(leads(star(5), (0, 4), (1, 4)), (4, 1))

    def test_large_webs(self):
        for web in (row(60), full(60), grid(10, 6)):
            self.assertEqual(leads(web, tuple(range(1, 60)), tuple(range(59))) is not None, True)
        self.assertEqual(leads(row(60), tuple(range(1, 60)), tuple(range(59))), tuple(range(59)))
        self.assertEqual(leads(full(60), tuple(range(1, 60)), tuple(range(59))), tuple(range(59)))
        self.assertEqual(leads(ring(60), tuple(range(0, 60, 2)), tuple(range(1, 60, 2))), tuple(range(1, 60, 2)))
        self.assertEqual(leads(ring(60), tuple(range(1, 60, 2)), tuple(range(0, 60, 2))), tuple(range(0, 60, 2)))
        self.assertIsNone(leads(bare(60), tuple(range(1, 60)), tuple(range(59))))
        self.assertIsNone(leads(row(60), tuple(range(30)), tuple(range(30, 60))))


class NothingIsKeptOrChanged(WithRefusals):
    def test_lists_are_told_anew(self):
        web = ring(5)
        for kind in KINDS:
            self.assert_told_anew(lambda: answers(web, (0, 2), 1, kind))
        leads(web, (0, 2), (1, 3))
        is_answer(web, (0, 2), 1, "all", (1, 2))
        self.assertEqual((web.places, web.ties), (5, ring(5).ties))


class WordsOfTheDocument(unittest.TestCase):
    """The tests' own reading, held to what is plain by hand."""

    def test_the_reading(self):
        self.assertEqual(every_answer(row(3), (0, 2), 1, "one"), [(0, 1), (1, 2)])
        self.assertEqual(every_answer(row(3), (0,), 2, "all"), [])
        self.assertEqual(sorted(every_move(row(3), (0, 1))), [(0, 1), (0, 2), (1, 0), (1, 2)])


if __name__ == "__main__":
    unittest.main()
