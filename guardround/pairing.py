"""Webs of two colours: the most pairs, the least cover, the most places apart and the fewest clubs."""

from guardround.colours import two_colours
from guardround.errors import NotTwo
from guardround.fitting import settle
from guardround.webs import near


def colours_or_refused(web):
    colours = two_colours(web)
    if colours is None:
        raise NotTwo("the web has no two colours")
    return colours


# Each place of the colour 1 that is paired, with the one of the colour 0 that it is paired with.
def partners(web, colours):
    takes = [near(web, place) for place in range(web.places)]
    everywhere = (1 << web.places) - 1
    found = {}
    for place, colour in enumerate(colours):
        if colour == 0:
            settle(takes, everywhere, found, place, {})
    return found


def most_pairs(web):
    found = partners(web, colours_or_refused(web))
    return sorted([(min(one, found[one]), max(one, found[one])) for one in found])


# All places that are come to from unpaired ones of the colour 0, along any tie to the colour 1, along a pair back.
def places_reached(web, colours, found):
    paired = list(found.values())
    ahead = [place for place, colour in enumerate(colours) if colour == 0 and place not in paired]
    reached = {}
    while ahead:
        place = ahead.pop()
        if place not in reached:
            reached[place] = True
            if colours[place] == 0:
                ahead.extend(near(web, place))
            else:
                ahead.append(found[place])
    return reached


def least_cover(web):
    colours = colours_or_refused(web)
    reached = places_reached(web, colours, partners(web, colours))
    # Of each pair just one place is taken: the other colour's where the pair was reached, else the first colour's.
    return tuple([place for place, colour in enumerate(colours) if (place in reached) == (colour == 1)])


def apart_and_clubs(web):
    cover = least_cover(web)
    apart = tuple([place for place in range(web.places) if place not in cover])
    clubs = most_pairs(web)
    paired = {}
    for one, other in clubs:
        paired[one] = True
        paired[other] = True
    singles = [(place,) for place in range(web.places) if place not in paired]
    return (apart, sorted(clubs + singles))
