"""Colonies: sets of places whose guards answer the calls within them, of the kind all."""

from guardround.answers import refuse_no_call
from guardround.errors import BadColony
from guardround.sets import is_club
from guardround.webs import near, parts_of, way_between, web_within


def looked(web, colonies):
    places = []
    for some, inner in colonies:
        places.extend(some)
    # Asked first, for of places that the web has not no more could be asked.
    if sorted(places) != list(range(web.places)):
        raise BadColony("colonies share no place and have all places of the web")
    for some, inner in colonies:
        if not is_colony(web, some, inner):
            raise BadColony("a colony is no club, or its inner places are not as they must be")


def is_colony(web, some, inner):
    if not inner:
        return is_club(web, some)
    if not all([place in some for place in inner]) or len(inner) == len(some):
        return False
    if len(parts_of(web_within(web, inner))) > 1:
        return False
    return all([place in inner or any([other in inner for other in near(web, place)]) for place in some])


def guards_of(colonies):
    return sum([len(inner) + 1 for some, inner in colonies])


def first_standing(web, colonies):
    told = []
    for some, inner in colonies:
        told.extend(inner)
        told.append(min([place for place in some if place not in inner]))
    return tuple(sorted(told))


def colony_answer(web, colonies, standing, call):
    refuse_no_call(web, standing, call)
    colony = [one for one in colonies if call in one[0]][0]
    extra = [place for place in standing if place in colony[0] and place not in colony[1]][0]
    # Of a club, which has no inner places, this is the one step from the guard to the call.
    way = way_through(web, colony[1], extra, call)
    steps = dict(zip(way, way[1:]))
    return tuple([steps.get(guard, guard) for guard in standing])


def way_through(web, inner, extra, call):
    # Numbered anew in their order, places are compared as before: the way told is the first here too.
    some = tuple(sorted(inner + (extra, call)))
    way = way_between(web_within(web, some), some.index(extra), some.index(call))
    return [some[number] for number in way]
