"""Holds the names and arguments of the whole program to the document's interface."""

import importlib
import inspect
import unittest

FUNCTIONS = {
    "webs": ["Web(places, ties)", "near(web, place)", "parts_of(web)", "way_between(web, one, other)",
             "web_within(web, some)"],
    "sets": ["first_unwatched(web, some)", "first_near(web, some)", "first_far(web, some)", "is_parting(web, clubs)"],
    "greatest": ["fewest_watch(web)", "most_apart(web)", "fewest_clubs(web)"],
    "standings": ["how_many(web, guards)", "standing_at(web, guards, number)", "number_of(web, standing)",
                  "standings(web, guards)"],
    "answers": ["answers(web, standing, call, kind)", "is_answer(web, standing, call, kind, told)",
                "leads(web, standing, other)"],
    "duel": ["lasting(web, guards, kind)", "falls(web, guards, kind)"],
    "papers": ["guide_paper(web, guards, kind)", "caller_paper(web, guards, kind)"],
    "examiner": ["guide_holds(web, guards, kind, paper)", "caller_holds(web, guards, kind, paper)"],
    "fewest": ["fewest(web, kind)", "shown(web, kind)", "five(web)"],
    "rows": ["row_answered(web, standing, calls, kind)"],
    "plays": ["GuardPlay(web, guards, kind)", "CallPlay(web, kind, standing)"],
    "colours": ["two_colours(web)", "odd_ring(web)"],
    "pairing": ["most_pairs(web)", "least_cover(web)", "apart_and_clubs(web)"],
    "roads": ["club_answer(web, clubs, standing, call)", "apart_call(web, some, standing)"],
    "colonies": ["looked(web, colonies)", "guards_of(colonies)", "first_standing(web, colonies)",
                 "colony_answer(web, colonies, standing, call)"],
    "woods": ["is_wood(web)", "wood_colonies(web)"],
    "beside": ["beside(one, other)", "guide_beside(one, paper, other, more)",
               "caller_beside(one, other, guards, kind)", "tied(web, one, other)"],
    "texts": ["web_text(web)", "web_of(text)"],
    "desk": ["answered(text)"],
}
METHODS = {
    "GuardPlay": ["standing(self)", "call(self, place)", "back(self)", "story(self)"],
    "CallPlay": ["standing(self)", "open_call(self)", "answer(self, told)", "beaten(self)", "back(self)"],
}


class TheInterface(unittest.TestCase):
    def check(self, holder, told):
        name = told.partition("(")[0]
        self.assertEqual(name + str(inspect.signature(getattr(holder, name))), told)

    def test_functions_and_classes(self):
        for module, every in FUNCTIONS.items():
            for told in every:
                with self.subTest(f"{module}.{told}"):
                    self.check(importlib.import_module(f"guardround.{module}"), told)

    def test_methods(self):
        plays = importlib.import_module("guardround.plays")
        for name, every in METHODS.items():
            for told in every:
                with self.subTest(f"{name}.{told}"):
                    self.check(getattr(plays, name), told)


if __name__ == "__main__":
    unittest.main()
