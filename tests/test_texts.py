import re
import unittest

from example_webs import WithRefusals, all_ties, bare, full, grid, in_parts, plain_shapes, ring, row, small_webs, twelves
from guardround.errors import BadText
from guardround.texts import web_of, web_text
from guardround.webs import Web

NUMBER = "(0|[1-9][0-9]?)"


def first_wrong(text):
    """The number of the first wrong row, or None, by the document's words."""
    rows = text.split("\n")
    head = re.fullmatch("places " + NUMBER, rows[0])
    if not head or not 1 <= int(head[1]) <= 60:
        return 1
    ahead = None
    for number, written in enumerate(rows[1:], start=2):
        match = re.fullmatch(f"tie {NUMBER} {NUMBER}", written)
        tie = match and (int(match[1]), int(match[2]))
        if not tie or max(tie) >= int(head[1]) or tie[0] >= tie[1] or (ahead is not None and tie <= ahead):
            return number
        ahead = tie
    return None


class WithTexts(WithRefusals):
    def assert_bad(self, text, number):
        with self.assertRaises(BadText) as caught:
            web_of(text)
        self.assertIs(type(caught.exception), BadText)
        self.assertEqual(caught.exception.row, number, text)
        self.assertEqual(first_wrong(text), number, text)


class WrittenAndRead(unittest.TestCase):
    def test_there_and_back(self):
        for web in small_webs(4) + plain_shapes(8) + twelves() + [ring(60), row(60), bare(60), grid(10, 6), full(60)]:
            text = web_text(web)
            self.assertIs(type(text), str)
            self.assertIsNone(first_wrong(text))
            told = web_of(text)
            self.assertIsInstance(told, Web)
            self.assertEqual((told.places, told.ties), (web.places, web.ties))
            self.assertEqual(web_text(told), text)

    def test_by_hand(self):
        self.assertEqual(web_text(bare(1)), "places 1")
        self.assertEqual(web_text(bare(60)), "places 60")
        self.assertEqual(web_text(Web(12, [(11, 0), (2, 1), (10, 2)])), "places 12\ntie 0 11\ntie 1 2\ntie 2 10")
        told = web_of("places 12\ntie 0 11\ntie 1 2\ntie 2 10")
        self.assertEqual((told.places, told.ties), (12, ((0, 11), (1, 2), (2, 10))))

    def test_ties_rise_as_numbers_and_not_as_texts(self):
        self.assertEqual(web_of("places 20\ntie 2 9\ntie 2 10\ntie 10 11").ties, ((2, 9), (2, 10), (10, 11)))

    def test_questions_leave_the_web(self):
        for web in in_parts():
            before = (web.places, web.ties)
            self.assertEqual(web_text(web), web_text(web))
            self.assertEqual((web.places, web.ties), before)


class WrongRows(WithTexts):
    def test_first_rows(self):
        for text in ("", "\n", "places", "places ", "places 0", "places 61", "places 99", "places 00", "places 05",
                     "places 060", "places 100", "places 1000", "places -1", "places +5", "places 5 ", " places 5",
                     "places  5", "Places 5", "place 5", "places 5 5", "places five", "places 5.", "places 1_0",
                     "tie 0 1", "5", "places\n5", "places5", "places 5\t", "places 0x5", "places 5\r"):
            self.assert_bad(text, 1)
            self.assert_bad(text + "\ntie 0 1", 1)
            self.assert_bad(text + "\nwrong too", 1)

    def test_further_rows(self):
        for wrong in ("", " ", "tie", "tie ", "tie 0", "tie 0 ", "tie 0 1 ", " tie 0 1", "tie  0 1", "tie 0  1",
                      "tie 0 1 2", "Tie 0 1", "ties 0 1", "tie 00 1", "tie 0 01", "tie 0 001", "tie 0 100", "tie 0 5",
                      "tie 5 6", "tie 4 5", "tie -1 0", "tie 0 -1", "tie 0 +1", "tie 1 0", "tie 4 1", "tie 0 0",
                      "tie 4 4", "tie a b", "tie 0,1", "tie 0 1.", "places 5", "0 1", "tie 0 1_", "tie 0 1\t"):
            self.assert_bad("places 5\n" + wrong, 2)
            self.assert_bad("places 5\n" + wrong + "\ntie 1 2", 2)
            self.assert_bad("places 5\n" + wrong + "\nwrong too\n", 2)
            self.assert_bad("places 5\ntie 0 1\ntie 0 2\n" + wrong, 4)
            self.assert_bad("places 5\ntie 0 1\ntie 0 2\n" + wrong + "\ntie 1 0", 4)

    def test_ties_that_do_not_rise(self):
        for ahead, behind in (("tie 1 2", "tie 0 3"), ("tie 0 3", "tie 0 2"), ("tie 1 2", "tie 1 2"),
                              ("tie 2 3", "tie 0 1"), ("tie 0 10", "tie 0 9"), ("tie 10 11", "tie 9 12")):
            self.assert_bad(f"places 13\n{ahead}\n{behind}", 3)
            self.assert_bad(f"places 13\n{ahead}\n{behind}\ntie 11 12", 3)

    def test_a_tie_twice(self):
        self.assert_bad("places 3\ntie 0 1\ntie 0 2\ntie 0 2\ntie 1 2", 4)
        self.assert_bad("places 3\ntie 0 1\ntie 0 2\ntie 0 1\ntie 1 2", 4)

    def test_a_line_feed_too_many(self):
        self.assert_bad("places 3\n", 2)
        self.assert_bad("places 3\ntie 0 1\n", 3)
        self.assert_bad("places 3\n\ntie 0 1", 2)
        self.assert_bad("\nplaces 3", 1)

    def test_the_largest_numbers(self):
        self.assertEqual(web_of("places 60\ntie 58 59").ties, ((58, 59),))
        self.assert_bad("places 60\ntie 58 60", 2)
        self.assert_bad("places 60\ntie 59 60", 2)
        self.assert_bad("places 60\ntie 58 99", 2)
        self.assert_bad("places 1\ntie 0 1", 2)

    def test_the_first_of_several(self):
        self.assert_bad("places 4\ntie 0 1\ntie 1 1\nnothing\ntie 0 1\n", 3)
        self.assert_bad("places 4\ntie 1 2\ntie 0 1\ntie 1 2", 3)
        self.assert_bad("places 61\ntie 1 1\n", 1)
        self.assert_bad("places 4\n" + "\n".join(f"tie {a} {b}" for a, b in all_ties(4)) + "\ntie 3 3\ntie 2 2", 8)

    def test_every_row_of_right_texts_changed_by_one_sign(self):
        text = "places 12\ntie 0 1\ntie 0 11\ntie 3 10\ntie 10 11"
        tried = 0
        for at in range(len(text) + 1):
            for sign in "\n 019-ta~":
                for changed in (text[:at] + sign + text[at:], text[:at] + sign + text[at + 1:], text[:at] + text[at + 1:]):
                    number = first_wrong(changed)
                    if number is None:
                        self.assertEqual(web_text(web_of(changed)), changed)
                    else:
                        self.assert_bad(changed, number)
                    tried += 1
        self.assertGreater(tried, 1000)

    def test_long_texts(self):
        rows = ["places 60"] + [f"tie {a} {b}" for a, b in all_ties(60)[:400]]
        self.assertEqual(web_of("\n".join(rows)).ties, tuple(all_ties(60)[:400]))
        self.assert_bad("\n".join(rows + ["tie 0 1"]), 402)
        self.assert_bad("\n" * 4000, 1)


if __name__ == "__main__":
    unittest.main()
