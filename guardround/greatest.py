"""The fewest places that watch a web, the most apart, and the fewest clubs."""

from guardround.errors import TooLarge
from guardround.sets import first_near, first_unwatched, is_club, sets_of

MOST_PLACES_TRIED = 12


def refuse_large(web):
    if web.places > MOST_PLACES_TRIED:
        raise TooLarge(f"the web has more than {MOST_PLACES_TRIED} places")


def fewest_watch(web):
    refuse_large(web)
    for size in range(1, web.places):
        for some in sets_of(web.places, size):
            if first_unwatched(web, some) is None:
                return some
    return tuple(range(web.places))


def most_apart(web):
    refuse_large(web)
    for size in range(web.places, 1, -1):
        for some in sets_of(web.places, size):
            if first_near(web, some) is None:
                return some
    return (0,)


def fewest_clubs(web):
    refuse_large(web)
    # No club has two places that stand apart, so fewer clubs need not be tried.
    for most in range(len(most_apart(web)), web.places):
        parting = parting_from(web, [], 0, most)
        if parting is not None:
            return parting
    return [(place,) for place in range(web.places)]


def parting_from(web, clubs, place, most):
    # Places are put in as they rise, so clubs rise too, and stand by their least places.
    if place == web.places:
        return clubs
    for tried in clubs_with(web, clubs, place, most):
        parting = parting_from(web, tried, place + 1, most)
        if parting is not None:
            return parting
    return None


def clubs_with(web, clubs, place, most):
    told = []
    for number, club in enumerate(clubs):
        joined = club + (place,)
        if is_club(web, joined):
            told.append(clubs[:number] + [joined] + clubs[number + 1:])
    if len(clubs) < most:
        told.append(clubs + [(place,)])
    return told
