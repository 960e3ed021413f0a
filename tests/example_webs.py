"""Webs for the tests, and the document's words over them, written apart from the program."""

import itertools
import unittest

from guardround.errors import GuardError
from guardround.webs import Web

KINDS = ("one", "all")


class WithRefusals(unittest.TestCase):
    def assert_refused(self, refusal, call, *told):
        """The very class, so that no refusal passes for another one."""
        with self.assertRaises(GuardError) as caught:
            call(*told)
        self.assertIs(type(caught.exception), refusal)

    def assert_told_anew(self, ask):
        """A list that is told, or each list of a tuple, is another one each time and can be done with as one likes."""
        first, again = ask(), ask()
        self.assertEqual(first, again)
        for one, other in zip(lists_in(first), lists_in(again)):
            self.assertIsNot(one, other)
        for one in lists_in(first):
            one.append("something else")
            one.reverse()
        self.assertEqual(ask(), again)


def lists_in(told):
    return [told] if isinstance(told, list) else [one for one in told if isinstance(one, list)]


def all_ties(places):
    return list(itertools.combinations(range(places), 2))


def every_web(places):
    ties = all_ties(places)
    return [Web(places, chosen) for size in range(len(ties) + 1) for chosen in itertools.combinations(ties, size)]


def small_webs(most):
    return [web for places in range(1, most + 1) for web in every_web(places)]


def every_set(places):
    return [some for size in range(places + 1) for some in itertools.combinations(range(places), size)]


def bare(places):
    return Web(places, [])


def full(places):
    return Web(places, all_ties(places))


def row(places):
    return Web(places, [(place, place + 1) for place in range(places - 1)])


def ring(places):
    return Web(places, [(place, (place + 1) % places) for place in range(places)])


def star(places):
    """The last place is near all others, so that it is not the one a search meets first."""
    return Web(places, [(place, places - 1) for place in range(places - 1)])


def grid(wide, high):
    across = [(at, at + 1) for at in range(wide * high) if at % wide < wide - 1]
    down = [(at, at + wide) for at in range(wide * (high - 1))]
    return Web(wide * high, across + down)


def scattered(places, step):
    """Ties that follow no simple shape, the same each time."""
    return Web(places, [tie for at, tie in enumerate(all_ties(places)) if (at * at + step * at) % 7 < 3])


def twelves():
    """Webs of the most places that the program goes through whole."""
    shapes = [bare(12), full(12), row(12), ring(12), star(12), grid(3, 4), grid(4, 3), grid(2, 6)]
    return shapes + [scattered(12, step) for step in range(1, 6)]


def sixties():
    """Webs of 60 places, some with two colours and some without."""
    two = [bare(60), row(60), ring(60), star(60), grid(10, 6), Web(60, [(a, b) for a in range(30) for b in range(30, 60)])]
    beside = Web(60, [(place, place + 2) for place in range(58)])
    tailed = Web(60, [(place, place + 1) for place in range(59)] + [(55, 59)])
    odd = [full(60), tailed, Web(60, [(place, place + 1) for place in range(58)] + [(0, 58)]), scattered(60, 3)]
    return two + [beside], odd


def tied(web, one, other):
    return (min(one, other), max(one, other)) in web.ties


def watches(web, some, place):
    return place in some or any(tied(web, place, guard) for guard in some)


def stands_apart(web, some):
    return not any(tied(web, *pair) for pair in itertools.combinations(some, 2))


def club(web, some):
    return len(some) > 0 and all(tied(web, *pair) for pair in itertools.combinations(some, 2))


def parting(web, clubs):
    once = all(sum(place in some for some in clubs) == 1 for place in range(web.places))
    leasts = [some[:1] for some in clubs]
    return once and all(club(web, some) for some in clubs) and leasts == sorted(leasts)


def in_parts():
    """Webs of several parts, some of one place, their places lying among one another."""
    return [Web(5, [(0, 2), (1, 4)]), Web(6, [(0, 3), (3, 5), (1, 2)]), Web(6, [(0, 2), (2, 4), (0, 4), (1, 3), (3, 5)]),
            Web(7, [(0, 1), (1, 2), (2, 3), (0, 3), (5, 6)])]


def plain_shapes(most):
    """Webs without ties, in a row, in a ring, as a star, with all ties and in several parts."""
    shapes = [make(places) for make in (bare, row, star, full) for places in range(1, most + 1)]
    return shapes + [ring(places) for places in range(3, most + 1)] + in_parts()


def every_standing(web):
    return every_set(web.places)[1:]


def free_places(web, standing):
    return [place for place in range(web.places) if place not in standing]


def every_move(web, standing):
    """Each tuple of unlike places to which the guards may go, whatever is called."""
    reach = [[place for place in range(web.places) if place == guard or tied(web, guard, place)] for guard in standing]
    return [told for told in itertools.product(*reach) if len(set(told)) == len(told)]


def every_answer(web, standing, call, kind):
    told = [move for move in every_move(web, standing) if call in move]
    if kind == "one":
        told = [move for move in told if sum(a != b for a, b in zip(standing, move)) == 1]
    return sorted(told)


def behind(answer):
    return tuple(sorted(answer))


def duel(web, guards, kind):
    """(the lasting standings, {the others: (round, call)}), straight by what the document says of rounds."""
    standings = list(itertools.combinations(range(web.places), guards))
    follow = {standing: {call: {behind(answer) for answer in every_answer(web, standing, call, kind)}
                         for call in free_places(web, standing)} for standing in standings}
    fallen = {}
    for number in itertools.count(1):
        ahead = set(fallen)
        for standing in standings:
            calls = [call for call, others in follow[standing].items() if others <= ahead]
            if standing not in ahead and calls:
                fallen[standing] = (number, min(calls))
        if len(fallen) == len(ahead):
            return [standing for standing in standings if standing not in fallen], fallen


def with_guards(webs):
    """Each web with each number of guards and either kind."""
    return [(web, guards, kind) for web in webs for guards in range(1, web.places + 1) for kind in KINDS]


def ways(web, begun, other):
    """Every list of unlike places that leads on from the one begun."""
    if begun[-1] == other:
        return [begun]
    further = [place for place in range(web.places) if tied(web, begun[-1], place) and place not in begun]
    return [way for place in further for way in ways(web, begun + [place], other)]


def answers_rightly(web, standing, call, kind, told):
    """The document's words over one tuple, for webs too large to go through all."""
    unlike = len(set(told)) == len(told) == len(standing)
    going = [(guard, place) for guard, place in zip(standing, told) if guard != place]
    return (unlike and call in told and all(tied(web, guard, place) for guard, place in going)
            and (kind == "all" or len(going) == 1))


def partitions(places):
    """Every way to part the places, the parts rising by their least."""
    if not places:
        return [[]]
    first, rest = places[0], places[1:]
    told = []
    for size in range(len(rest) + 1):
        for others in itertools.combinations(rest, size):
            left = tuple(place for place in rest if place not in others)
            told.extend([((first,) + others)] + further for further in partitions(left))
    return told
