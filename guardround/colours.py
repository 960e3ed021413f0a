"""Webs in two colours, and rings of odd length where there are none."""

from guardround.webs import parts_of, steps_from, way_between


def steps_in_parts(web):
    # Each place is counted from the least place of its part, which has the colour 0.
    steps = {}
    for part in parts_of(web):
        steps.update(steps_from(web, part[0]))
    return steps


def first_clash(web, steps):
    for one, other in web.ties:
        # Along a tie steps differ by one at most: so here they are the same.
        if steps[one] % 2 == steps[other] % 2:
            return (one, other)
    return None


def two_colours(web):
    steps = steps_in_parts(web)
    if first_clash(web, steps) is not None:
        return None
    return tuple([steps[place] % 2 for place in range(web.places)])


def odd_ring(web):
    clash = first_clash(web, steps_in_parts(web))
    if clash is None:
        return None
    start = [part[0] for part in parts_of(web) if clash[0] in part][0]
    return ring_of(way_between(web, start, clash[0]), way_between(web, start, clash[1]))


# Both ways are as short as any and of one length, so a place that they share lies as far along the one as the other.
def ring_of(one, other):
    shared = [at for at, place in enumerate(one) if other[at] == place]
    return one[shared[-1]:] + list(reversed(other[shared[-1] + 1:]))
