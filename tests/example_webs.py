"""Webs for the tests, and the document's words over them, written apart from the program."""

import itertools

from guardround.webs import Web


def all_ties(places):
    return list(itertools.combinations(range(places), 2))


def every_web(places):
    ties = all_ties(places)
    return [Web(places, chosen) for size in range(len(ties) + 1) for chosen in itertools.combinations(ties, size)]


def small_webs(most):
    return [web for places in range(1, most + 1) for web in every_web(places)]


def every_set(places):
    return [some for size in range(places + 1) for some in itertools.combinations(range(places), size)]


def bare(places):
    return Web(places, [])


def full(places):
    return Web(places, all_ties(places))


def row(places):
    return Web(places, [(place, place + 1) for place in range(places - 1)])


def ring(places):
    return Web(places, [(place, (place + 1) % places) for place in range(places)])


def star(places):
    """The last place is near all others, so that it is not the one a search meets first."""
    return Web(places, [(place, places - 1) for place in range(places - 1)])


def grid(wide, high):
    across = [(at, at + 1) for at in range(wide * high) if at % wide < wide - 1]
    down = [(at, at + wide) for at in range(wide * (high - 1))]
    return Web(wide * high, across + down)


def scattered(places, step):
    """Ties that follow no simple shape, the same each time."""
    return Web(places, [tie for at, tie in enumerate(all_ties(places)) if (at * at + step * at) % 7 < 3])


def twelves():
    """Webs of the most places that the program goes through whole."""
    shapes = [bare(12), full(12), row(12), ring(12), star(12), grid(3, 4), grid(4, 3), grid(2, 6)]
    return shapes + [scattered(12, step) for step in range(1, 6)]


def tied(web, one, other):
    return (min(one, other), max(one, other)) in web.ties


def watches(web, some, place):
    return place in some or any(tied(web, place, guard) for guard in some)


def stands_apart(web, some):
    return not any(tied(web, *pair) for pair in itertools.combinations(some, 2))


def club(web, some):
    return len(some) > 0 and all(tied(web, *pair) for pair in itertools.combinations(some, 2))


def parting(web, clubs):
    once = all(sum(place in some for some in clubs) == 1 for place in range(web.places))
    leasts = [some[:1] for some in clubs]
    return once and all(club(web, some) for some in clubs) and leasts == sorted(leasts)
