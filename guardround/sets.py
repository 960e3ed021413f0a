"""Sets of places: what they watch, whether they stand apart, clubs and partings."""

from guardround.webs import near


def sets_of(places, size):
    # Each set begun here can be filled up, so no more are ever held than are told.
    told = [()]
    for step in range(size):
        longer = []
        for some in told:
            least = some[-1] + 1 if some else 0
            for place in range(least, places - size + step + 1):
                longer.append(some + (place,))
        told = longer
    return told


def first_unwatched(web, some):
    watched = {}
    for place in some:
        watched[place] = True
        for beside in near(web, place):
            watched[beside] = True
    for place in range(web.places):
        if place not in watched:
            return place
    return None


def first_pair(web, some, wanted):
    for number, one in enumerate(some):
        beside = near(web, one)
        for other in some[number + 1:]:
            if (other in beside) == wanted:
                return (one, other)
    return None


def first_near(web, some):
    return first_pair(web, some, True)


def first_far(web, some):
    return first_pair(web, some, False)


def is_club(web, some):
    return len(some) > 0 and first_far(web, some) is None


def is_parting(web, clubs):
    held = []
    for club in clubs:
        held.extend(club)
    # Asked first, for a club of places that the web has not could not be looked at.
    if sorted(held) != list(range(web.places)):
        return False
    # Clubs that share no place are by their least places just where they rise.
    if clubs != sorted([tuple(sorted(club)) for club in clubs]):
        return False
    return all([is_club(web, club) for club in clubs])
