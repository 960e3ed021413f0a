import unittest

from example_webs import KINDS, WithRefusals, bare, behind, duel, every_answer, every_standing, free_places, full
from example_webs import plain_shapes, ring, row, star, with_guards
from guardround.duel import falls, lasting
from guardround.errors import BadGuards, NoAnswer, NoCall, NoCaller, NoGuide, NoStep, TooLarge
from guardround.papers import guide_paper
from guardround.plays import CallPlay, GuardPlay
from guardround.webs import Web


class GuardsPlays(WithRefusals):
    def test_gone_along_by_the_paper_and_taken_back(self):
        for web, guards, kind in with_guards(plain_shapes(5)):
            paper = guide_paper(web, guards, kind)
            if paper is None:
                self.assert_refused(NoGuide, GuardPlay, web, guards, kind)
                continue
            rows = {standing: dict(told) for standing, told in paper}
            play = GuardPlay(web, guards, kind)
            past = [(paper[0][0], None)]
            story = []
            self.assertEqual(play.story(), [])
            for turn in range(12):
                standing = play.standing()
                self.assertEqual(standing, past[-1][0])
                calls = free_places(web, standing)
                if not calls:
                    break
                call = calls[(turn * turn + turn // 2) % len(calls)]
                told = play.call(call)
                self.assertEqual(told, rows[standing][call])
                self.assertEqual(play.standing(), behind(told))
                past.append((behind(told), call))
                story.append((call, told))
                self.assertEqual(play.story(), story)
            while story:
                self.assertEqual(play.back(), story.pop()[0])
                past.pop()
                self.assertEqual(play.standing(), past[-1][0])
                self.assertEqual(play.story(), story)
            self.assert_refused(NoStep, play.back)
            self.assertEqual(play.standing(), paper[0][0])

    def test_by_hand(self):
        play = GuardPlay(star(4), 2, "all")
        self.assertEqual(play.standing(), (0, 3))
        self.assertEqual(play.call(2), (3, 2))
        self.assertEqual(play.standing(), (2, 3))
        self.assertEqual(play.call(1), (3, 1))
        self.assertEqual(play.story(), [(2, (3, 2)), (1, (3, 1))])
        self.assertEqual(play.back(), 1)
        self.assertEqual(play.standing(), (2, 3))
        self.assertEqual(play.call(0), (3, 0))
        self.assertEqual(play.story(), [(2, (3, 2)), (0, (3, 0))])

    def test_it_begins_at_the_first_lasting_standing(self):
        play = GuardPlay(row(4), 2, "one")
        self.assertEqual(play.standing(), lasting(row(4), 2, "one")[0])
        self.assertEqual(play.standing(), (0, 2))
        self.assertIs(type(play.standing()), tuple)

    def test_calls_that_are_none(self):
        play = GuardPlay(ring(5), 3, "one")
        play.call(free_places(ring(5), play.standing())[0])
        standing, story = play.standing(), play.story()
        for call in (-1, 5, 6, 1000) + standing:
            self.assert_refused(NoCall, play.call, call)
            self.assertEqual((play.standing(), play.story()), (standing, story))

    def test_as_many_guards_as_places(self):
        for kind in KINDS:
            play = GuardPlay(bare(3), 3, kind)
            self.assertEqual((play.standing(), play.story()), ((0, 1, 2), []))
            for call in range(-1, 4):
                self.assert_refused(NoCall, play.call, call)
            self.assert_refused(NoStep, play.back)

    def test_refusals_and_which_goes_first(self):
        for kind in KINDS:
            for web in (bare(3), ring(5), bare(60)):
                for guards in (0, -1, web.places + 1):
                    self.assert_refused(BadGuards, GuardPlay, web, guards, kind)
            self.assert_refused(TooLarge, GuardPlay, bare(29), 2, kind)
            self.assert_refused(TooLarge, GuardPlay, full(60), 30, kind)
            self.assert_refused(NoGuide, GuardPlay, bare(28), 2, kind)
            self.assert_refused(NoGuide, GuardPlay, bare(60), 59, kind)

    def test_two_plays_do_not_know_of_one_another(self):
        web = ring(6)
        one, other = GuardPlay(web, 3, "all"), GuardPlay(web, 3, "all")
        start = one.standing()
        one.call(free_places(web, start)[0])
        self.assertEqual((other.standing(), other.story()), (start, []))
        self.assert_refused(NoStep, other.back)

    def test_nothing_is_kept_or_changed(self):
        web = ring(5)
        play = GuardPlay(web, 3, "one")
        same = GuardPlay(ring(5), 3, "one")
        self.assertEqual((web.places, web.ties), (5, ring(5).ties))
        web.places = 1
        web.ties = ()
        for turn in range(4):
            call = free_places(ring(5), play.standing())[turn % 2]
            self.assertEqual(play.call(call), same.call(call))
        self.assert_told_anew(play.story)
        self.assertEqual(play.story(), same.story())


class CallersPlays(WithRefusals):
    def down(self, web, kind, play, fallen):
        """Each answer to the open call, down to where there is none, and back."""
        standing = play.standing()
        number, call = fallen[standing]
        every = every_answer(web, standing, call, kind)
        self.assertEqual(play.open_call(), call)
        self.assertIs(play.beaten(), every == [])
        for told in every:
            self.assertIs(play.answer(told), True)
            self.assertEqual(play.standing(), behind(told))
            self.assertLess(fallen[play.standing()][0], number)
            self.down(web, kind, play, fallen)
            self.assertEqual(play.back(), told)
            self.assertEqual((play.standing(), play.open_call()), (standing, call))

    def test_down_every_answer_and_back(self):
        for web in [row(3), row(4), star(4), ring(5), bare(3), Web(4, [(0, 2)]), Web(5, [(0, 2), (2, 4), (1, 3)])]:
            for kind in KINDS:
                for standing in every_standing(web):
                    stay, fallen = duel(web, len(standing), kind)
                    if standing in stay:
                        self.assert_refused(NoCaller, CallPlay, web, kind, standing)
                    else:
                        play = CallPlay(web, kind, standing)
                        self.down(web, kind, play, fallen)
                        self.assertEqual(play.standing(), standing)
                        self.assert_refused(NoStep, play.back)

    def test_by_hand(self):
        play = CallPlay(star(4), "one", (2, 3))
        self.assertEqual((play.standing(), play.open_call(), play.beaten()), ((2, 3), 0, False))
        self.assertIs(play.answer((2, 0)), True)
        self.assertEqual((play.standing(), play.open_call(), play.beaten()), ((0, 2), 1, True))
        self.assert_refused(NoAnswer, play.answer, (0, 1))
        self.assertEqual(play.back(), (2, 0))
        self.assertIs(play.beaten(), False)
        self.assert_refused(NoStep, play.back)
        self.assertIs(type(play.standing()), tuple)

    def test_answers_that_are_none(self):
        play = CallPlay(row(5), "one", (1, 3))
        call = play.open_call()
        right = every_answer(row(5), (1, 3), call, "one")
        for told in ((), (1,), (1, 3), (3, 1), (0, 2), (1, 2, 3), (call, call), (call, 3, 4), (-1, call), (9, call),
                     (10 ** 40, 3)):
            if told not in right:
                self.assert_refused(NoAnswer, play.answer, told)
                self.assertEqual((play.standing(), play.open_call()), ((1, 3), call))
        self.assert_refused(NoStep, play.back)

    def test_answers_of_the_other_kind(self):
        web = row(5)
        for standing, number, call in falls(web, 2, "one"):
            play = CallPlay(web, "one", standing)
            for told in set(every_answer(web, standing, call, "all")) - set(every_answer(web, standing, call, "one")):
                self.assert_refused(NoAnswer, play.answer, told)

    def test_refusals_and_which_goes_first(self):
        for kind in KINDS:
            self.assert_refused(TooLarge, CallPlay, bare(29), kind, (0, 1))
            self.assert_refused(TooLarge, CallPlay, full(60), kind, tuple(range(30)))
            self.assert_refused(NoCaller, CallPlay, full(28), kind, (0, 1))
            self.assert_refused(NoCaller, CallPlay, bare(2), kind, (0, 1))
            self.assertEqual(CallPlay(bare(28), kind, (0, 1)).open_call(), 2)

    def test_a_standing_that_falls_though_others_last(self):
        play = CallPlay(star(4), "all", (0, 1))
        self.assertEqual((play.open_call(), play.beaten()), (2, True))
        self.assert_refused(NoCaller, CallPlay, star(4), "all", (0, 3))

    def test_nothing_is_kept_or_changed(self):
        web = star(4)
        play = CallPlay(web, "one", (2, 3))
        self.assertEqual((web.places, web.ties), (4, star(4).ties))
        web.places = 1
        web.ties = ()
        web.near_sets = ((),)
        self.assertIs(play.answer((2, 0)), True)
        self.assertEqual(play.open_call(), 1)
        other = CallPlay(star(4), "one", (2, 3))
        self.assert_refused(NoStep, other.back)


if __name__ == "__main__":
    unittest.main()
