"""Webs: places, the ties between them, and the ways along the ties."""

from guardround.errors import BadPlaces, BadTie, NoPlace

MOST_PLACES = 60


class Web:
    def __init__(self, places, ties):
        if not 1 <= places <= MOST_PLACES:
            raise BadPlaces(f"a web has 1 to {MOST_PLACES} places")
        self.places = places
        self.ties = checked_ties(places, ties)
        # Every further question asks for near places, so they are sorted out once.
        self.near_sets = near_sets_of(places, self.ties)


def checked_ties(places, ties):
    found = {}
    for one, other in ties:
        tie = (min(one, other), max(one, other))
        if tie[0] == tie[1]:
            raise BadTie("a tie has one place twice")
        if tie[0] < 0 or tie[1] >= places:
            raise BadTie("a tie has a place that is not there")
        if tie in found:
            raise BadTie("a tie is there twice")
        found[tie] = True
    return tuple(sorted(found))


def near_sets_of(places, ties):
    rows = [[] for place in range(places)]
    for one, other in ties:
        rows[one].append(other)
        rows[other].append(one)
    return tuple([tuple(sorted(row)) for row in rows])


def refuse_no_place(web, place):
    if not 0 <= place < web.places:
        raise NoPlace("the web has no such place")


def near(web, place):
    refuse_no_place(web, place)
    return web.near_sets[place]


def steps_from(web, start):
    # Layer by layer, so that the first number a place gets is its least.
    steps = {start: 0}
    layer = [start]
    while layer:
        further = []
        for place in layer:
            for beside in near(web, place):
                if beside not in steps:
                    steps[beside] = steps[place] + 1
                    further.append(beside)
        layer = further
    return steps


def parts_of(web):
    parts = []
    seen = {}
    for place in range(web.places):
        if place not in seen:
            steps = steps_from(web, place)
            seen.update(steps)
            parts.append(tuple(sorted(steps)))
    return parts


def way_between(web, one, other):
    refuse_no_place(web, one)
    refuse_no_place(web, other)
    # Counted from the far end: each step of the way can then take the least
    # place that comes nearer, which makes the way the first of the shortest.
    steps = steps_from(web, other)
    if one not in steps:
        return None
    way = [one]
    while way[-1] != other:
        here = way[-1]
        way.append(min([place for place in near(web, here) if steps[place] < steps[here]]))
    return way


def web_within(web, some):
    numbers = {}
    for number, place in enumerate(some):
        numbers[place] = number
    ties = [(numbers[one], numbers[other]) for one, other in web.ties if one in numbers and other in numbers]
    return Web(len(numbers), ties)
