"""The fewest guards of a kind, what shows them, and the five numbers of a web."""

from guardround.duel import lasting
from guardround.errors import TooLarge
from guardround.greatest import fewest_clubs, fewest_watch, most_apart
from guardround.papers import caller_paper, guide_paper

MOST_PLACES_GUARDED = 8


def refuse_many_places(web):
    if web.places > MOST_PLACES_GUARDED:
        raise TooLarge(f"the web has more than {MOST_PLACES_GUARDED} places")


def least_guards(web, kind):
    for guards in range(1, web.places):
        if lasting(web, guards, kind):
            return guards
    return web.places


def fewest(web, kind):
    refuse_many_places(web)
    return least_guards(web, kind)


def shown(web, kind):
    guards = fewest(web, kind)
    guide = guide_paper(web, guards, kind)
    caller = caller_paper(web, guards - 1, kind) if guards > 1 else None
    return (guards, guide, caller)


def five(web):
    refuse_many_places(web)
    of_all = least_guards(web, "all")
    of_one = least_guards(web, "one")
    return (len(fewest_watch(web)), of_all, len(most_apart(web)), of_one, len(fewest_clubs(web)))
