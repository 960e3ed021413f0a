import itertools
import unittest

from example_webs import KINDS, WithRefusals, bare, behind, every_answer, every_web, free_places, full, plain_shapes
from example_webs import ring, row, small_webs, star, with_guards
from guardround.errors import TooLarge
from guardround.examiner import caller_holds, guide_holds
from guardround.papers import caller_paper, guide_paper
from guardround.webs import Web


def right_guide(web, guards, kind, paper):
    """For papers of the right form: the document's words."""
    every = list(itertools.combinations(range(web.places), guards))
    listed = [standing for standing, rows in paper]
    right = len(listed) > 0 and len(set(listed)) == len(listed) and all(standing in every for standing in listed)
    return right and all(
        [call for call, answer in rows] == free_places(web, standing)
        and all(answer in every_answer(web, standing, call, kind) and behind(answer) in listed for call, answer in rows)
        for standing, rows in paper)


def right_caller(web, guards, kind, paper):
    every = list(itertools.combinations(range(web.places), guards))
    numbers = {standing: number for standing, number, call in paper}
    return (sorted(standing for standing, number, call in paper) == every and min(numbers.values()) >= 1
            and all(call in free_places(web, standing) for standing, number, call in paper)
            and all(numbers[behind(answer)] < number for standing, number, call in paper
                    for answer in every_answer(web, standing, call, kind)))


def changed_entry(paper, at, entry):
    return paper[:at] + [entry] + paper[at + 1:]


def strange_things():
    return [0, -1, 7, "", "one", (), ((),), (0,), ("0", "1"), (0, 1, 2, 3, 4, 5), (0, "1"), ((0, 1),), 10 ** 40,
            ((0, 1), 1, 2, 3), ((0, 1),) * 2, ((0, 1), (2, 3)), (((), ()), ())]


class ToldPapers(unittest.TestCase):
    def test_just_one_holds(self):
        for web, guards, kind in with_guards(small_webs(4) + every_web(5)[::83] + plain_shapes(6)):
            guide = guide_paper(web, guards, kind)
            caller = caller_paper(web, guards, kind)
            if guide is not None:
                self.assertIs(guide_holds(web, guards, kind, guide), True)
                self.assertTrue(right_guide(web, guards, kind, guide))
            else:
                self.assertIs(caller_holds(web, guards, kind, caller), True)
                self.assertTrue(right_caller(web, guards, kind, caller))

    def test_empty_papers(self):
        for web, guards, kind in with_guards(plain_shapes(3)):
            self.assertIs(guide_holds(web, guards, kind, []), False)
            self.assertIs(caller_holds(web, guards, kind, []), False)

    def test_papers_of_the_other_side(self):
        self.assertIs(guide_holds(ring(5), 2, "one", caller_paper(ring(5), 2, "one")), False)
        self.assertIs(caller_holds(ring(5), 3, "one", guide_paper(ring(5), 3, "one")), False)

    def test_papers_of_another_kind_web_or_number(self):
        guide = guide_paper(ring(5), 2, "all")
        self.assertIs(guide_holds(ring(5), 2, "one", guide), False)
        self.assertIs(guide_holds(ring(5), 3, "all", guide), False)
        self.assertIs(guide_holds(ring(5), 1, "all", guide), False)
        self.assertIs(guide_holds(row(5), 2, "all", guide), False)
        self.assertIs(guide_holds(ring(6), 2, "all", guide), False)
        self.assertIs(guide_holds(bare(4), 2, "all", guide), False)
        caller = caller_paper(ring(5), 2, "one")
        self.assertIs(caller_holds(ring(5), 2, "all", caller), False)
        self.assertIs(caller_holds(ring(5), 1, "one", caller), False)
        self.assertIs(caller_holds(ring(6), 2, "one", caller), False)
        self.assertIs(caller_holds(full(5), 2, "one", caller), False)
        self.assertIs(caller_holds(bare(5), 2, "one", caller), True)

    def test_guides_of_one_hold_for_all(self):
        for web, guards, kind in with_guards(plain_shapes(5)):
            paper = guide_paper(web, guards, "one")
            if paper is not None:
                self.assertIs(guide_holds(web, guards, "all", paper), True)


class GuidesPapers(unittest.TestCase):
    web = ring(4)
    paper = [((0, 2), ((1, (1, 2)), (3, (3, 2)))), ((1, 2), ((0, (0, 2)), (3, (1, 3)))),
             ((2, 3), ((0, (2, 0)), (1, (1, 3)))), ((0, 1), ((2, (0, 2)), (3, (3, 1)))),
             ((1, 3), ((0, (1, 0)), (2, (2, 3))))]

    def holds(self, paper, kind="one"):
        return guide_holds(self.web, 2, kind, paper)

    def test_one_that_holds_in_any_order(self):
        for order in itertools.permutations(self.paper):
            self.assertIs(self.holds(list(order)), True)
            self.assertIs(self.holds(list(order), "all"), True)

    def test_one_standing_and_no_call(self):
        self.assertIs(guide_holds(bare(3), 3, "one", [((0, 1, 2), ())]), True)
        self.assertIs(guide_holds(bare(1), 1, "all", [((0,), ())]), True)
        self.assertIs(guide_holds(bare(1), 1, "all", [((0,), ((0, (0,)),))]), False)
        self.assertIs(guide_holds(bare(1), 1, "all", [((0,), (), ())]), False)
        self.assertIs(guide_holds(bare(1), 1, "all", [((0,),)]), False)

    def test_what_fails_by_one_thing_alone(self):
        first = self.paper[0]
        for why, paper in (
            ("no standing", []),
            ("a standing missing", self.paper[1:]),
            ("another one missing", self.paper[:-2] + self.paper[-1:]),
            ("a standing twice", self.paper + [first]),
            ("a standing twice with other rows", self.paper + [((0, 2), ((1, (0, 1)), (3, (0, 3))))]),
            ("a standing of one guard more", self.paper + [((0, 1, 2), ((3, (0, 1, 3)),))]),
            ("a standing of one guard less", self.paper + [((0,), ((1, (1,)), (2, (2,)), (3, (3,))))]),
            ("a standing that does not rise", changed_entry(self.paper, 0, ((2, 0), first[1]))),
            ("a place that is not there", self.paper + [((1, 4), ((0, (0, 4)), (2, (2, 4)), (3, (3, 4))))]),
            ("a place below nought", self.paper + [((-1, 2), ((0, (0, 2)), (1, (1, 2)), (3, (3, 2))))]),
            ("a call missing", changed_entry(self.paper, 0, ((0, 2), first[1][:1]))),
            ("the first call missing", changed_entry(self.paper, 0, ((0, 2), first[1][1:]))),
            ("no call", changed_entry(self.paper, 0, ((0, 2), ()))),
            ("a call twice", changed_entry(self.paper, 0, ((0, 2), first[1] + first[1][1:]))),
            ("a call twice and one missing", changed_entry(self.paper, 0, ((0, 2), first[1][:1] * 2))),
            ("calls that do not rise", changed_entry(self.paper, 0, ((0, 2), first[1][::-1]))),
            ("a call from a guard's place", changed_entry(self.paper, 0, ((0, 2), ((0, (0, 2)),) + first[1]))),
            ("a call from nowhere", changed_entry(self.paper, 0, ((0, 2), first[1] + ((4, (0, 2)),)))),
            ("no answer, the call is not taken", changed_entry(self.paper, 0, ((0, 2), ((1, (0, 2)), first[1][1])))),
            ("no answer, too far", changed_entry(self.paper, 1, ((1, 2), ((0, (0, 2)), (3, (3, 2)))))),
            ("no answer, a guard too few", changed_entry(self.paper, 0, ((0, 2), ((1, (1,)), first[1][1])))),
            ("leads out of the list", changed_entry(self.paper, 0, ((0, 2), ((1, (1, 2)), (3, (0, 3)))))),
            ("rows as a list", changed_entry(self.paper, 0, ((0, 2), list(first[1])))),
            ("an entry as a list", changed_entry(self.paper, 0, list(first))),
            ("a row as a list", changed_entry(self.paper, 0, ((0, 2), ([1, (1, 2)], first[1][1])))),
            ("an answer as a list", changed_entry(self.paper, 0, ((0, 2), ((1, [1, 2]), first[1][1])))),
            ("a standing as a list", changed_entry(self.paper, 0, ([0, 2], first[1]))),
            ("a truth in a call's place", changed_entry(self.paper, 0, ((0, 2), ((True, (1, 2)), first[1][1])))),
            ("a truth in an answer", changed_entry(self.paper, 0, ((0, 2), ((1, (True, 2)), first[1][1])))),
            ("a truth in a standing", changed_entry(self.paper, 0, ((False, 2), first[1]))),
        ):
            with self.subTest(why):
                self.assertIs(self.holds(paper), False)
                self.assertIs(self.holds(paper, "all"), False)

    def test_two_guards_that_go_hold_for_all_alone(self):
        paper = [((0, 2), ((1, (1, 3)), (3, (1, 3)))), ((1, 3), ((0, (0, 2)), (2, (0, 2))))]
        self.assertIs(self.holds(paper, "all"), True)
        self.assertIs(self.holds(paper, "one"), False)
        self.assertIs(self.holds(paper[:1], "all"), False)

    def test_things_of_another_form(self):
        for thing in strange_things():
            for kind in KINDS:
                self.assertIs(self.holds([thing], kind), False)
                self.assertIs(self.holds(self.paper + [thing], kind), False)
                self.assertIs(self.holds([thing] + self.paper, kind), False)
                self.assertIs(self.holds(changed_entry(self.paper, 0, (thing, self.paper[0][1])), kind), False)
                self.assertIs(self.holds(changed_entry(self.paper, 0, ((0, 2), thing)), kind), False)
                self.assertIs(self.holds(changed_entry(self.paper, 0, ((0, 2), (thing, (3, (3, 2))))), kind), False)
                self.assertIs(self.holds(changed_entry(self.paper, 0, ((0, 2), ((thing, (1, 2)), (3, (3, 2))))), kind),
                              False)
                self.assertIs(self.holds(changed_entry(self.paper, 0, ((0, 2), ((1, thing), (3, (3, 2))))), kind),
                              False)

    def test_all_short_papers_of_a_small_web(self):
        web = row(3)
        some = {}
        for standing in itertools.combinations(range(3), 2):
            call = free_places(web, standing)[0]
            some[standing] = [((call, told),) for told in itertools.product(range(3), repeat=2)]
        entries = [(standing, rows) for standing in some for rows in some[standing]]
        for size in (1, 2):
            for paper in itertools.product(entries, repeat=size):
                for kind in KINDS:
                    wanted = right_guide(web, 2, kind, list(paper))
                    self.assertIs(guide_holds(web, 2, kind, list(paper)), wanted)

    def test_large_webs_are_not_refused(self):
        web = Web(60, [(place, place + 1) for place in range(0, 60, 2)])
        evens = tuple(range(0, 60, 2))
        self.assertIs(guide_holds(web, 30, "one", [(evens, ())]), False)
        everything = tuple(range(60))
        self.assertIs(guide_holds(web, 60, "one", [(everything, ())]), True)
        odds = tuple(range(1, 60, 2))
        paper = [(evens, tuple((call, odds) for call in odds)), (odds, tuple((call, evens) for call in evens))]
        self.assertIs(guide_holds(web, 30, "all", paper), True)
        self.assertIs(guide_holds(web, 30, "one", paper), False)


class CallersPapers(unittest.TestCase):
    web = star(4)
    paper = [((0, 1), 1, 2), ((0, 2), 1, 1), ((0, 3), 2, 1), ((1, 2), 1, 0), ((1, 3), 2, 0), ((2, 3), 2, 0)]

    def holds(self, paper):
        return caller_holds(self.web, 2, "one", paper)

    def test_one_that_holds_in_any_order(self):
        for order in itertools.permutations(self.paper):
            self.assertIs(self.holds(list(order)), True)

    def test_other_numbers_and_calls_that_fall_too(self):
        numbers = [3, 7, 8, 5, 10 ** 40, 9]
        self.assertIs(self.holds([(entry[0], number, entry[2]) for entry, number in zip(self.paper, numbers)]), True)
        self.assertIs(self.holds(changed_entry(self.paper, 2, ((0, 3), 2, 2))), True)

    def test_what_fails_by_one_thing_alone(self):
        for why, paper in (
            ("no standing", []),
            ("a standing missing", self.paper[1:]),
            ("the last one missing", self.paper[:-1]),
            ("a standing twice", self.paper + self.paper[:1]),
            ("a standing twice in another one's place", self.paper[:-1] + [((0, 3), 2, 1)]),
            ("a standing of more guards", self.paper + [((0, 1, 2), 1, 3)]),
            ("a standing of fewer guards", self.paper + [((0,), 1, 2)]),
            ("a standing that does not rise", changed_entry(self.paper, 0, ((1, 0), 1, 2))),
            ("a place that is not there", changed_entry(self.paper, 0, ((0, 4), 1, 2))),
            ("a place below nought", changed_entry(self.paper, 0, ((-1, 1), 1, 2))),
            ("a call from a guard's place", changed_entry(self.paper, 0, ((0, 1), 1, 1))),
            ("a call from nowhere", changed_entry(self.paper, 0, ((0, 1), 1, 4))),
            ("a call from below nought", changed_entry(self.paper, 0, ((0, 1), 1, -1))),
            ("a number that does not fall", changed_entry(self.paper, 4, ((1, 3), 1, 0))),
            ("a number that rises", changed_entry(self.paper, 1, ((0, 2), 3, 1))),
            ("another call by which it does not fall", changed_entry(self.paper, 0, ((0, 1), 1, 3))),
            ("a number that is nought", changed_entry(self.paper, 0, ((0, 1), 0, 2))),
            ("a number below nought", changed_entry(self.paper, 0, ((0, 1), -5, 2))),
            ("a number as a text", changed_entry(self.paper, 0, ((0, 1), "1", 2))),
            ("a number as a tuple", changed_entry(self.paper, 0, ((0, 1), (1,), 2))),
            ("a truth for a number", changed_entry(self.paper, 0, ((0, 1), True, 2))),
            ("a truth for a call", changed_entry(self.paper, 1, ((0, 2), 1, True))),
            ("a truth in a standing", changed_entry(self.paper, 0, ((False, 1), 1, 2))),
            ("a call as a text", changed_entry(self.paper, 0, ((0, 1), 1, "2"))),
            ("a call as a tuple", changed_entry(self.paper, 0, ((0, 1), 1, (2,)))),
            ("a pair", changed_entry(self.paper, 0, ((0, 1), 1))),
            ("four things", changed_entry(self.paper, 0, ((0, 1), 1, 2, 2))),
            ("an entry as a list", changed_entry(self.paper, 0, [(0, 1), 1, 2])),
        ):
            with self.subTest(why):
                self.assertIs(self.holds(paper), False)

    def test_things_of_another_form(self):
        for thing in strange_things():
            self.assertIs(self.holds([thing]), False)
            self.assertIs(self.holds(self.paper + [thing]), False)
            self.assertIs(self.holds([thing] + self.paper), False)
            self.assertIs(self.holds(changed_entry(self.paper, 0, (thing, 1, 2))), False)
            if thing == 7 or thing == 10 ** 40:
                continue
            self.assertIs(self.holds(changed_entry(self.paper, 2, ((0, 3), thing, 1))), False)
            self.assertIs(self.holds(changed_entry(self.paper, 0, ((0, 1), 1, thing))), False)

    def test_all_papers_of_a_small_web(self):
        for web in (row(3), star(3), bare(3), full(3), Web(3, [(0, 1)])):
            for guards in (1, 2):
                standings = list(itertools.combinations(range(3), guards))
                choices = [[(standing, number, call) for number in (0, 1, 2) for call in range(-1, 4)]
                           for standing in standings]
                for paper in itertools.islice(itertools.product(*choices), guards, None, 3):
                    for kind in KINDS:
                        wanted = right_caller(web, guards, kind, list(paper))
                        self.assertIs(caller_holds(web, guards, kind, list(paper)), wanted)

    def test_calls_that_are_none_where_nobody_can_move(self):
        for kind in KINDS:
            self.assertIs(caller_holds(bare(2), 1, kind, [((0,), 1, 1), ((1,), 1, 0)]), True)
            for call in (0, -1, -2, 2, 3, 10 ** 40):
                self.assertIs(caller_holds(bare(2), 1, kind, [((0,), 1, call), ((1,), 1, 0)]), False)

    def test_a_paper_is_a_list(self):
        self.assertIs(self.holds(tuple(self.paper)), False)
        self.assertIs(guide_holds(bare(1), 1, "one", (((0,), ()),)), False)


class NeverBoth(unittest.TestCase):
    def test_no_paper_of_the_other_side_holds(self):
        """Where a guide's paper holds, no numbers up to five and no calls make a caller's; and turned about."""
        for web in (row(3), star(3), bare(2), full(3), Web(3, [(1, 2)])):
            for guards in range(1, web.places + 1):
                for kind in KINDS:
                    standings = list(itertools.combinations(range(web.places), guards))
                    choices = [[(standing, number, call) for number in range(1, len(standings) + 1)
                                for call in free_places(web, standing)] for standing in standings]
                    held = any(caller_holds(web, guards, kind, list(paper)) for paper in itertools.product(*choices))
                    self.assertEqual(held, guide_paper(web, guards, kind) is None)


class TheBound(WithRefusals):
    def test_only_the_callers_side_is_refused(self):
        for places, guards in ((29, 2), (29, 27), (60, 30), (12, 4)):
            for kind in KINDS:
                for paper in ([], [((0, 1), 1, 2)], ["nothing"]):
                    self.assert_refused(TooLarge, caller_holds, full(places), guards, kind, paper)
                    self.assertIs(guide_holds(full(places), guards, kind, paper), False)

    def test_up_to_it(self):
        for kind in KINDS:
            self.assertIs(caller_holds(row(28), 2, kind, caller_paper(row(28), 2, kind)), True)
        self.assertIs(caller_holds(bare(60), 59, "all", caller_paper(bare(60), 59, "all")), True)
        self.assertIs(guide_holds(full(60), 59, "all", guide_paper(full(60), 59, "all")), True)
        self.assertIs(guide_holds(ring(14), 11, "one", guide_paper(ring(14), 11, "one")), True)


class NothingIsKeptOrChanged(unittest.TestCase):
    def test_papers_stay_as_they_were(self):
        guide = guide_paper(ring(5), 3, "one")
        caller = caller_paper(ring(5), 2, "one")
        copies = list(guide), list(caller)
        web = ring(5)
        for times in range(2):
            self.assertIs(guide_holds(web, 3, "one", guide), True)
            self.assertIs(caller_holds(web, 2, "one", caller), True)
        self.assertEqual((guide, caller), copies)
        self.assertEqual((web.places, web.ties), (5, ring(5).ties))
        guide.clear()
        caller.pop()
        self.assertIs(guide_holds(web, 3, "one", guide), False)
        self.assertIs(caller_holds(web, 2, "one", caller), False)


if __name__ == "__main__":
    unittest.main()
