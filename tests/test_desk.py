import unittest

from example_webs import KINDS, WithRefusals, bare, behind, duel, every_answer, every_standing, free_places, full
from example_webs import grid, in_parts, plain_shapes, ring, row, star
from guardround.desk import answered
from guardround.errors import BadText
from guardround.fewest import fewest, five
from guardround.texts import web_text
from guardround.webs import Web


def asked(web, questions):
    return answered(web_text(web) + "\n\n" + "\n".join(questions))


def written(numbers):
    return " ".join(str(number) for number in numbers)


class Questions(unittest.TestCase):
    def test_five_and_fewest(self):
        for web in plain_shapes(6) + [ring(8), grid(4, 2)]:
            told = asked(web, ["five", "fewest one", "fewest all"])
            self.assertIs(type(told), list)
            self.assertTrue(all(type(text) is str for text in told))
            self.assertEqual(told, [written(five(web)), str(fewest(web, "one")), str(fewest(web, "all"))])

    def test_lasts_at_each_standing(self):
        for web in plain_shapes(4) + [ring(5), star(5)] + in_parts()[:2]:
            for kind in KINDS:
                questions, wanted = [], []
                for standing in every_standing(web):
                    stay, fallen = duel(web, len(standing), kind)
                    questions.append(f"lasts {kind} {written(standing)}")
                    wanted.append("lasts" if standing in stay else "falls in round {} at {}".format(*fallen[standing]))
                self.assertEqual(asked(web, questions), wanted)

    def test_call_at_each_standing(self):
        for web in plain_shapes(4) + [ring(5), star(5)] + in_parts()[:1]:
            for kind in KINDS:
                questions, wanted = [], []
                for standing in every_standing(web):
                    stay = duel(web, len(standing), kind)[0]
                    for call in range(web.places):
                        questions.append(f"call {kind} {call} {written(standing)}")
                        if call in standing:
                            wanted.append("refused")
                        elif standing not in stay:
                            wanted.append("beaten")
                        else:
                            wanted.append(written(min(told for told in every_answer(web, standing, call, kind)
                                                      if behind(told) in stay)))
                self.assertEqual(asked(web, questions), wanted)

    def test_by_hand(self):
        self.assertEqual(asked(star(4), ["five", "fewest one", "fewest all", "lasts all 0 3", "lasts one 0 3",
                                         "lasts all 0 1", "call all 2 0 3", "call one 2 0 3", "call all 2 0 1"]),
                         ["1 2 3 3 3", "3", "2", "lasts", "falls in round 2 at 1", "falls in round 1 at 2", "3 2",
                          "beaten", "beaten"])

    def test_no_questions(self):
        self.assertEqual(answered("places 3\n"), [])
        self.assertEqual(answered("places 3\ntie 0 1\n"), [])

    def test_the_same_question_again(self):
        self.assertEqual(asked(ring(5), ["five", "lasts one 0 1", "five", "wrong", "lasts one 0 1", "wrong"]),
                         ["2 2 2 3 3", "falls in round 1 at 3", "2 2 2 3 3", "refused", "falls in round 1 at 3",
                          "refused"])


class RefusedQuestions(unittest.TestCase):
    def test_each_thing(self):
        web = ring(5)
        refused = [
            "", " ", "six", "five ", " five", "Five", "five five", "five one", "fewest", "fewest ", "fewest two",
            "fewest  one", "fewest one ", "fewest one 1", "fewest One", "lasts", "lasts one", "lasts one ", "lasts 0",
            "lasts 0 one", "lasts both 0 1", "lasts one 5", "lasts one 0 5", "lasts one -1", "lasts one 0 1 99",
            "lasts one 100", "lasts one 1 0", "lasts one 0 0", "lasts one 0 2 1", "lasts one 0  1", "lasts one 0 1 ",
            " lasts one 0 1", "lasts  one 0 1", "lasts one 00", "lasts one 01", "lasts one 0,1", "lasts one a",
            "lasts one (0, 1)", "lasts one 0 1 +2", "call", "call one", "call one 0", "call one 0 ", "call 0 1 2",
            "call one 5 0 1", "call one -1 0 1", "call one 0 0 1", "call one 1 0 1", "call one 2 1 0",
            "call one 2 0 0", "call one 2 0 5", "call one 02 0 1", "call one 2 0 01", "call one  2 0 1",
            "call one 2 0 1 ", "call two 2 0 1", "call one x 0 1", "call one 2 x", "call one 2 0 1 2", "Call one 2 0 1",
            "lasts one 0 1~", "tie 0 1", "places 5", "fewest all one", "refused", "answer one 2 0 1",
        ]
        self.assertEqual(asked(web, refused), ["refused"] * len(refused))

    def test_right_ones_among_them(self):
        self.assertEqual(asked(ring(5), ["nothing", "fewest one", "", "fewest all", "lasts one 0 9"]),
                         ["refused", "3", "refused", "2", "refused"])

    def test_webs_that_are_too_large(self):
        self.assertEqual(asked(bare(9), ["five", "fewest one", "fewest all", "lasts one 0 1", "call all 8 0 1"]),
                         ["refused"] * 3 + ["falls in round 1 at 2", "beaten"])
        self.assertEqual(asked(bare(29), ["lasts one 0 1", "lasts all 0 1", "call one 5 0 1", "call all 5 0 1",
                                          "lasts one 7", "call all 8 7"]),
                         ["refused"] * 4 + ["falls in round 1 at 0", "beaten"])
        everything = " ".join(str(place) for place in range(60))
        self.assertEqual(asked(full(60), [f"lasts all {everything}", "lasts all 7", "call one 59 7"]),
                         ["lasts", "lasts", "59"])

    def test_a_text_that_ends_with_a_line_feed(self):
        """The row behind it is an empty one, and so no question."""
        self.assertEqual(answered("places 3\n\n"), ["refused"])
        self.assertEqual(answered("places 3\n\nfewest one\n"), ["3", "refused"])
        self.assertEqual(answered("places 3\n\n\n\nfewest one"), ["refused", "refused", "3"])


class WrongTexts(WithRefusals):
    def assert_bad(self, text, number):
        with self.assertRaises(BadText) as caught:
            answered(text)
        self.assertIs(type(caught.exception), BadText)
        self.assertEqual(caught.exception.row, number, text)

    def test_a_wrong_web_above_questions(self):
        for text, number in (("places 0", 1), ("place 3", 1), ("places 3\ntie 0 3", 2), ("places 3\ntie 1 0", 2),
                             ("places 3\ntie 0 1\ntie 0 1", 3), ("places 3\ntie 0 2\ntie 0 1\ntie 1 1", 3),
                             ("places 3\ntie 0 1\nfive", 3), ("places 3\n ", 2), ("five", 1)):
            self.assert_bad(text + "\n\nfive", number)
            self.assert_bad(text + "\n\n", number)
            self.assert_bad(text + "\n", number)
            self.assert_bad(text + "\n\nnothing\n\nplaces 3", number)
            self.assert_bad(text, number)

    def test_without_an_empty_row(self):
        self.assert_bad("places 3", 2)
        self.assert_bad("places 3\ntie 0 1", 3)
        self.assert_bad("places 3\ntie 0 1\ntie 0 2\ntie 1 2", 5)
        self.assert_bad("places 3\ntie 0 1\nfewest one", 3)

    def test_without_a_web(self):
        self.assert_bad("", 1)
        self.assert_bad("\n", 1)
        self.assert_bad("\nfive", 1)
        self.assert_bad("\n\nfive", 1)
        self.assert_bad("\nplaces 3\n\nfive", 1)

    def test_rows_of_the_web_behind_the_empty_row_are_questions(self):
        self.assertEqual(answered("places 3\n\ntie 0 1\nfewest one"), ["refused", "3"])


class LongTexts(unittest.TestCase):
    def test_four_thousand_signs(self):
        head = web_text(row(28))
        standings = [(one, other) for one in range(28) for other in range(one + 1, 28)]
        questions = [f"lasts all {one} {other}" for one, other in standings]
        text = (head + "\n\n" + "\n".join(questions))[:4000]
        told = answered(text)
        stay = [text for text in told if text == "lasts"]
        self.assertEqual(stay, [])
        self.assertEqual(told[0], "falls in round 1 at 3")
        self.assertEqual(len(told), text.count("\n") - head.count("\n") - 1)

    def test_the_same_long_question_many_times(self):
        told = answered(web_text(bare(8)) + "\n\n" + "\n".join(["five"] * 700))
        self.assertEqual(told, ["8 8 8 8 8"] * 700)


class NothingIsKept(WithRefusals):
    def test_lists_are_told_anew(self):
        for text in ("places 3\n\nfive\nnothing", "places 2\n"):
            self.assert_told_anew(lambda: answered(text))

    def test_two_texts_do_not_know_of_one_another(self):
        self.assertEqual(asked(bare(3), ["fewest one"]), ["3"])
        self.assertEqual(asked(full(3), ["fewest one"]), ["1"])
        self.assertEqual(asked(Web(3, [(0, 1)]), ["fewest one"]), ["2"])
        self.assertEqual(asked(bare(3), ["fewest one"]), ["3"])


class WordsOfTheDocument(unittest.TestCase):
    def test_the_reading(self):
        self.assertEqual(free_places(row(3), (0, 2)), [1])
        self.assertEqual(duel(row(3), 1, "all"), ([], {(0,): (1, 2), (2,): (1, 0), (1,): (2, 0)}))


if __name__ == "__main__":
    unittest.main()
