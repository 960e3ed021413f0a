"""Webs beside one another, their papers, and a web with a tie more."""

from guardround.fewest import least_guards
from guardround.papers import caller_paper
from guardround.standings import standings
from guardround.webs import Web


def counted_on(places, further):
    return tuple([place + further for place in places])


def beside(one, other):
    return Web(one.places + other.places, one.ties + tuple([counted_on(tie, one.places) for tie in other.ties]))


def tied(web, one, other):
    return Web(web.places, web.ties + ((one, other),))


def guide_beside(one, paper, other, more):
    told = []
    for standing, rows in paper:
        for second, further in more:
            behind = counted_on(second, one.places)
            calls = [(call, answer + behind) for call, answer in rows]
            calls.extend([(call + one.places, standing + counted_on(answer, one.places)) for call, answer in further])
            told.append((standing + behind, tuple(calls)))
    return sorted(told)


# For each standing of too few guards for the web, of these guards at most, its number and call in the caller's paper.
def callers_of(web, enough, guards, kind):
    # Without a guard the first call has no answer.
    told = {(): (1, 0)}
    for few in range(1, min(enough, guards + 1)):
        for standing, number, call in caller_paper(web, few, kind):
            told[standing] = (number, call)
    return told


def caller_beside(one, other, guards, kind):
    of_one = least_guards(one, kind)
    of_other = least_guards(other, kind)
    if guards >= of_one + of_other:
        return None
    first = callers_of(one, of_one, guards, kind)
    second = callers_of(other, of_other, guards, kind)
    told = []
    for standing in standings(beside(one, other), guards):
        ours = tuple([place for place in standing if place < one.places])
        if ours in first:
            told.append((standing,) + first[ours])
        else:
            fate = second[counted_on(standing[len(ours):], -one.places)]
            told.append((standing, fate[0], fate[1] + one.places))
    return told
