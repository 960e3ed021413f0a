"""Standings: sets of as many places as there are guards, numbered as they rise."""

from guardround.errors import BadGuards, TooLarge
from guardround.sets import sets_of

MOST_STANDINGS = 400


def ways_to_choose(places, size):
    ways = 1
    for step in range(size):
        ways = ways * (places - step) // (step + 1)
    return ways


def how_many(web, guards):
    if not 1 <= guards <= web.places:
        raise BadGuards("a web has standings of 1 guard up to as many as places")
    return ways_to_choose(web.places, guards)


def standing_at(web, guards, number):
    how_many(web, guards)
    told = []
    ahead = number
    for place in range(web.places):
        missing = guards - len(told)
        if missing == 0:
            break
        going_on = ways_to_choose(web.places - place - 1, missing - 1)
        if ahead < going_on:
            told.append(place)
        else:
            ahead -= going_on
    return tuple(told)


def number_of(web, standing):
    ahead = 0
    least = 0
    for number, guard in enumerate(standing, start=1):
        for place in range(least, guard):
            ahead += ways_to_choose(web.places - place - 1, len(standing) - number)
        least = guard + 1
    return ahead


def standings(web, guards):
    if how_many(web, guards) > MOST_STANDINGS:
        raise TooLarge(f"there are more than {MOST_STANDINGS} standings")
    return sets_of(web.places, guards)
