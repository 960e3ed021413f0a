import itertools
import unittest

from example_webs import WithRefusals, all_ties, bare, every_web, full, in_parts, plain_shapes, ring, row, sixties
from example_webs import small_webs, star, tied, twelves
from guardround.colours import odd_ring, two_colours
from guardround.webs import Web, parts_of


def colourings(web):
    return [colours for colours in itertools.product((0, 1), repeat=web.places)
            if all(colours[one] != colours[other] for one, other in web.ties)]


def is_odd_ring(web, told):
    return (len(told) % 2 == 1 and len(told) >= 3 and len(set(told)) == len(told)
            and all(tied(web, one, other) for one, other in zip(told, told[1:] + told[:1])))


class TwoColours(unittest.TestCase):
    def test_small_webs(self):
        for web in small_webs(4) + every_web(5)[::7] + plain_shapes(6):
            every = colourings(web)
            leasts = [part[0] for part in parts_of(web)]
            wanted = [colours for colours in every if all(colours[least] == 0 for least in leasts)]
            told = two_colours(web)
            if not every:
                self.assertIsNone(told)
            else:
                self.assertEqual([told], wanted)
                self.assertIs(type(told), tuple)
                self.assertTrue(all(type(colour) is int for colour in told))

    def test_large_webs(self):
        two, odd = sixties()
        for web in two:
            told = two_colours(web)
            self.assertTrue(all(told[one] != told[other] for one, other in web.ties))
            self.assertEqual([told[part[0]] for part in parts_of(web)], [0] * len(parts_of(web)))
            self.assertEqual(sorted(set(told) | {0, 1}), [0, 1])
        for web in odd:
            self.assertIsNone(two_colours(web))

    def test_by_hand(self):
        self.assertEqual(two_colours(bare(3)), (0, 0, 0))
        self.assertEqual(two_colours(row(4)), (0, 1, 0, 1))
        self.assertEqual(two_colours(star(4)), (0, 0, 0, 1))
        self.assertEqual(two_colours(Web(5, [(0, 4), (3, 4), (1, 2)])), (0, 0, 1, 0, 1))
        self.assertIsNone(two_colours(ring(5)))
        self.assertIsNone(two_colours(Web(6, [(0, 1), (3, 4), (4, 5), (3, 5)])))


class OddRings(unittest.TestCase):
    def test_just_where_there_are_no_two_colours(self):
        for web in small_webs(4) + every_web(5)[::7] + plain_shapes(8) + twelves() + every_web(6)[::501]:
            told = odd_ring(web)
            if two_colours(web) is not None:
                self.assertIsNone(told)
            else:
                self.assertIs(type(told), list)
                self.assertTrue(is_odd_ring(web, told), (web.ties, told))

    def test_large_webs(self):
        two, odd = sixties()
        for web in two:
            self.assertIsNone(odd_ring(web))
        for web in odd:
            self.assertTrue(is_odd_ring(web, odd_ring(web)))

    def test_the_only_one(self):
        self.assertEqual(sorted(odd_ring(Web(7, [(0, 1), (1, 2), (2, 3), (3, 4), (4, 5), (3, 5), (5, 6)]))), [3, 4, 5])
        self.assertEqual(sorted(odd_ring(Web(8, [(0, 1), (2, 4), (4, 6), (6, 7), (3, 7), (2, 3)]))), [2, 3, 4, 6, 7])
        self.assertEqual(len(odd_ring(ring(59))), 59)

    def test_ways_that_part_and_come_together_again(self):
        """From the least place two ways as short lead to the ring's both ends, by a square that they share."""
        web = Web(8, [(0, 1), (0, 2), (1, 3), (2, 3), (3, 4), (3, 5), (4, 5), (6, 7)])
        self.assertTrue(is_odd_ring(web, odd_ring(web)))


class NothingIsKeptOrChanged(WithRefusals):
    def test_lists_are_told_anew(self):
        for web in [ring(7), full(5)] + in_parts()[2:3]:
            before = (web.places, web.ties)
            self.assert_told_anew(lambda: odd_ring(web))
            two_colours(web)
            self.assertEqual((web.places, web.ties), before)


class WordsOfTheDocument(unittest.TestCase):
    def test_the_reading(self):
        self.assertTrue(is_odd_ring(full(4), [3, 0, 1]))
        self.assertFalse(is_odd_ring(full(4), [3, 0, 1, 2]))
        self.assertFalse(is_odd_ring(full(4), [3]))
        self.assertFalse(is_odd_ring(row(3), [0, 1, 2]))
        self.assertFalse(is_odd_ring(full(4), [0, 1, 2, 0, 1]))
        self.assertEqual(len(all_ties(60)), 1770)


if __name__ == "__main__":
    unittest.main()
