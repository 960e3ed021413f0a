"""Plays: a guard who answers calls by the guide's paper, and a caller who beats the guards."""

from guardround.answers import is_answer
from guardround.duel import falls
from guardround.errors import NoAnswer, NoCall, NoCaller, NoGuide, NoStep
from guardround.papers import guide_paper
from guardround.webs import Web


class GuardPlay:
    def __init__(self, web, guards, kind):
        paper = guide_paper(web, guards, kind)
        if paper is None:
            raise NoGuide("so many guards are beaten, however they stand")
        self.guide = {}
        for standing, rows in paper:
            self.guide[standing] = dict(rows)
        self.here = paper[0][0]
        self.past = []

    def standing(self):
        return self.here

    def call(self, place):
        rows = self.guide[self.here]
        if place not in rows:
            raise NoCall("a call comes from a place of the web without a guard")
        told = rows[place]
        self.past.append((self.here, place, told))
        self.here = tuple(sorted(told))
        return told

    def back(self):
        if not self.past:
            raise NoStep("no call was answered")
        step = self.past.pop()
        self.here = step[0]
        return step[1]

    def story(self):
        return [(place, told) for ahead, place, told in self.past]


class CallPlay:
    def __init__(self, web, kind, standing):
        self.fates = {}
        for fallen, number, call in falls(web, len(standing), kind):
            self.fates[fallen] = (number, call)
        if standing not in self.fates:
            raise NoCaller("the standing lasts")
        # A web of its own: what the asker does with the other one changes nothing here.
        self.web = Web(web.places, web.ties)
        self.kind = kind
        self.here = standing
        self.past = []

    def standing(self):
        return self.here

    def open_call(self):
        return self.fates[self.here][1]

    def answer(self, told):
        if not is_answer(self.web, self.here, self.open_call(), self.kind, told):
            raise NoAnswer("that does not answer the open call")
        self.past.append((self.here, told))
        self.here = tuple(sorted(told))
        return True

    def beaten(self):
        # Just the standings of round 1 have a call without an answer, and that is the one they are told with.
        return self.fates[self.here][0] == 1

    def back(self):
        if not self.past:
            raise NoStep("no answer was told")
        step = self.past.pop()
        self.here = step[0]
        return step[1]
