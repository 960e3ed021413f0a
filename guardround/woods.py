"""Woods: webs without a ring, and colonies of theirs with as few guards as can be.

Each part is gone through from its furthest places to its least one. At each place the fewest guards for it and all
beyond it are kept with their finished colonies, in three ways:
closed: the place is in a colony that has no place nearer to the least one;
lent: the place is in the colony of the next nearer place, and its guard, if it needs one, is counted there;
inner: the place is an inner one of a colony that is still open, whose inner and further places are kept too.
"""

from guardround.errors import NotWood
from guardround.webs import near, parts_of, steps_from


def is_wood(web):
    return len(web.ties) == web.places - len(parts_of(web))


def wood_colonies(web):
    if not is_wood(web):
        raise NotWood("the web has a ring")
    colonies = []
    for part in parts_of(web):
        colonies.extend(part_colonies(web, part[0]))
    return sorted(colonies)


def part_colonies(web, start):
    steps = steps_from(web, start)
    closed = {}
    lent = {}
    inner = {}
    for place in sorted(steps, key=lambda one: -steps[one]):
        beyond = [other for other in near(web, place) if steps[other] > steps[place]]
        lent[place] = all_closed(closed, beyond)
        inner[place] = opened(place, beyond, closed, lent, inner)
        closed[place] = fewest_guards(closings(place, beyond, closed, lent, inner))
    return closed[start][1]


def fewest_guards(choices):
    return min(choices, key=lambda choice: choice[0])


def all_closed(closed, places):
    guards = 0
    colonies = []
    for place in places:
        guards += closed[place][0]
        colonies.extend(closed[place][1])
    return (guards, colonies)


def opened(place, beyond, closed, lent, inner):
    guards = 1
    colonies = []
    inside = [place]
    further = []
    for other in beyond:
        best = fewest_guards([closed[other] + ([], []), lent[other] + ([], [other]), inner[other]])
        guards += best[0]
        colonies.extend(best[1])
        inside.extend(best[2])
        further.extend(best[3])
    return (guards, colonies, inside, further)


# Every way to end the place's colony here: by itself, as an inner place, as a club with one beyond, or as a further
# place of one beyond.
def closings(place, beyond, closed, lent, inner):
    rest = all_closed(closed, beyond)
    told = [finished(rest, (0, []), [], [place]), finished(inner[place], (0, []), inner[place][2], inner[place][3])]
    for other in beyond:
        rest = all_closed(closed, [one for one in beyond if one != other])
        told.append(finished(rest, lent[other], [], [place, other]))
        told.append(finished(rest, inner[other], inner[other][2], inner[other][3] + [place]))
    return told


def finished(one, other, inside, further):
    colony = (tuple(sorted(inside + further)), tuple(sorted(inside)))
    return (one[0] + other[0] + 1, one[1] + other[1] + [colony])
