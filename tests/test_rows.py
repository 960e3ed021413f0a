import itertools
import unittest

from example_webs import KINDS, WithRefusals, bare, behind, every_answer, every_standing, full, grid, in_parts, ring
from example_webs import row, star
from guardround.duel import lasting
from guardround.errors import NoPlace, TooLarge
from guardround.rows import row_answered
from guardround.webs import Web


def steps(web, standing, call, kind):
    return [standing] if call in standing else every_answer(web, standing, call, kind)


def by_hand(web, standing, calls, kind):
    """Every row of answers, call by call."""
    rows = [[]]
    for number, call in enumerate(calls):
        here = {tuple(told): behind(told[-1]) if told else standing for told in map(tuple, rows)}
        longer = [list(told) + [step] for told in here for step in steps(web, here[told], call, kind)]
        if not longer:
            return number, sorted(set(here.values()))
        rows = longer
    return min(rows), None


def small_shapes():
    return [bare(2), bare(3), row(3), row(4), ring(4), star(4), full(3), full(4), Web(4, [(0, 2), (1, 3)]),
            Web(4, [(0, 1), (1, 2)])]


class RowsGoneAlong(unittest.TestCase):
    def compare(self, web, standing, calls, kind):
        told = row_answered(web, standing, calls, kind)
        self.assertEqual(told, by_hand(web, standing, calls, kind), (web.ties, standing, calls, kind))
        self.assertIs(type(told), tuple)
        self.assertIs(type(told[0]), list if told[1] is None else int)

    def test_all_short_rows_of_small_webs(self):
        for web in small_shapes():
            for standing in every_standing(web):
                for length in range(4):
                    for calls in itertools.product(range(web.places), repeat=length):
                        for kind in KINDS:
                            self.compare(web, standing, list(calls), kind)

    def test_longer_rows(self):
        for web in [row(5), ring(5), ring(6), star(5)] + in_parts()[:2]:
            for number, standing in enumerate(itertools.combinations(range(web.places), 2)):
                for step in (1, 2, 3):
                    calls = [(number + step * at * at) % web.places for at in range(5)]
                    for kind in KINDS:
                        self.compare(web, standing, calls, kind)

    def test_no_calls(self):
        for web in small_shapes():
            for standing in every_standing(web):
                for kind in KINDS:
                    self.assertEqual(row_answered(web, standing, [], kind), ([], None))

    def test_calls_that_change_nothing(self):
        for kind in KINDS:
            self.assertEqual(row_answered(bare(4), (1, 3), [3, 1, 1, 3], kind), ([(1, 3)] * 4, None))
            self.assertEqual(row_answered(bare(4), (1, 3), [3, 1, 2, 1], kind), (2, [(1, 3)]))
            self.assertEqual(row_answered(bare(4), (1, 3), [0], kind), (0, [(1, 3)]))

    def test_the_first_answer_is_not_always_one_that_goes_on(self):
        """To the call 1 the guard of 0 could go, but then the call 0 behind it had none."""
        self.assertEqual(row_answered(row(4), (0, 2), [1], "one"), ([(0, 1)], None))
        self.assertEqual(row_answered(row(4), (0, 2), [1, 3], "one"), ([(1, 2), (1, 3)], None))
        self.assertEqual(row_answered(row(4), (0, 2), [1, 0, 3], "one"), ([(1, 2), (0, 2), (0, 3)], None))

    def test_answers_are_at_the_standing_behind_the_one_ahead(self):
        self.assertEqual(row_answered(ring(4), (1, 2), [3, 0], "one"), ([(1, 3), (0, 3)], None))
        self.assertEqual(row_answered(ring(4), (0, 1), [3, 2], "all"), ([(3, 0), (0, 2)], None))

    def test_the_most_that_can_be_gone_along(self):
        self.assertEqual(row_answered(star(4), (0, 3), [1, 2], "one"), (1, [(0, 1)]))
        self.assertEqual(row_answered(row(5), (0, 1), [2, 4, 0], "one"), (1, [(0, 2)]))
        beside = Web(4, [(0, 1), (0, 2), (1, 2)])
        for kind in KINDS:
            self.assertEqual(row_answered(beside, (0, 1), [2, 3], kind), (1, [(0, 2), (1, 2)]))
            self.assertEqual(row_answered(beside, (0, 1), [2, 2, 3, 2], kind), (2, [(0, 2), (1, 2)]))

    def test_of_a_lasting_standing_each_row(self):
        for web in (ring(5), row(6), star(6)):
            for kind in KINDS:
                for guards in range(1, web.places + 1):
                    for standing in lasting(web, guards, kind)[:3]:
                        calls = [(3 * at * at + at) % web.places for at in range(40)]
                        told, rest = row_answered(web, standing, calls, kind)
                        self.assertIsNone(rest)
                        self.assertEqual(len(told), 40)

    def test_tuples_and_lists_of_calls(self):
        self.assertEqual(row_answered(row(4), (0, 2), (1, 3), "one"), ([(1, 2), (1, 3)], None))


class LargeWebs(unittest.TestCase):
    def test_up_to_the_bound(self):
        everything_else = tuple(range(59))
        told = row_answered(full(60), everything_else, [59, 58, 0], "one")
        self.assertEqual(told[1], None)
        self.assertEqual(told[0][0], tuple(range(58)) + (59,))
        told = row_answered(row(28), (0, 27), [1, 26, 2, 25], "one")
        self.assertEqual(told, ([(1, 27), (1, 26), (2, 26), (2, 25)], None))
        told = row_answered(ring(28), tuple(range(2, 28)), [0, 1], "all")
        self.assertIsNone(told[1])
        self.assertEqual(told[0][0][-1], 0)

    def test_a_long_row(self):
        calls = [0, 1] * 500
        told = row_answered(row(5), (0, 3), calls, "one")
        self.assertEqual(told, ([(0, 3)] + [(1, 3), (0, 3)] * 499 + [(1, 3)], None))


class Refusals(WithRefusals):
    def test_calls_from_nowhere(self):
        for kind in KINDS:
            for strange in (-1, -4, 4, 5, 1000):
                for calls in ([strange], [0, strange], [strange, 0], [2, 3, 2, strange], (1, strange)):
                    self.assert_refused(NoPlace, row_answered, bare(4), (0, 1), calls, kind)

    def test_too_large(self):
        for web, standing in ((bare(29), (0, 1)), (full(60), tuple(range(30))), (ring(12), (0, 3, 6, 9))):
            for kind in KINDS:
                for calls in ([], [0], [1, 2]):
                    self.assert_refused(TooLarge, row_answered, web, standing, calls, kind)

    def test_no_place_goes_ahead(self):
        for kind in KINDS:
            for calls in ([-1], [0, 29], [28, 29]):
                self.assert_refused(NoPlace, row_answered, bare(29), (0, 1), calls, kind)
            self.assert_refused(TooLarge, row_answered, bare(29), (0, 1), [0, 28], kind)


class NothingIsKeptOrChanged(WithRefusals):
    def test_lists_are_told_anew(self):
        web = grid(3, 2)
        for calls in ([], [1, 5], [1, 5, 0, 2, 3, 4, 0, 5], [0, 0]):
            for kind in KINDS:
                handed = list(calls)
                self.assert_told_anew(lambda: row_answered(web, (0, 2), handed, kind))
                self.assertEqual(handed, calls)
        self.assertEqual((web.places, web.ties), (6, grid(3, 2).ties))


if __name__ == "__main__":
    unittest.main()
