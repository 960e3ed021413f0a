"""Putting guards on places: each on one that it may take, no two on one.

A guard goes by the place it comes from. Places that are left to be taken are the bits of a whole number, so that
many such sets are looked at quickly.
"""

from guardround.webs import near


def takes_of(web):
    return [tuple(sorted((place,) + near(web, place))) for place in range(web.places)]


def bits_of(some):
    bits = 0
    for place in some:
        bits |= 1 << place
    return bits


def members(bits):
    told = []
    left = bits
    while left:
        told.append((left & -left).bit_length() - 1)
        left &= left - 1
    return told


# Whether the guard finds a place, others making room for it; holders is changed to tell who then holds which.
def settle(takes, bits, holders, guard, seen):
    wanted = [place for place in takes[guard] if bits >> place & 1 and place not in seen]
    for place in wanted:
        if place not in holders:
            holders[place] = guard
            return True
    for place in wanted:
        if place not in seen:
            seen[place] = True
            if settle(takes, bits, holders, holders[place], seen):
                holders[place] = guard
                return True
    return False


def fits(takes, guards, bits):
    # Whoever may stay does so at first: then few are left that need others to make room.
    holders = {}
    for guard in guards:
        if bits >> guard & 1:
            holders[guard] = guard
    for guard in guards:
        if not bits >> guard & 1 and not settle(takes, bits, holders, guard, {}):
            return False
    return True


def first_step(takes, guard, rest, wanted):
    for place in takes[guard]:
        bit = 1 << place
        lefts = [left ^ bit for left in wanted if left & bit]
        for number, left in enumerate(lefts):
            if fits(takes, rest, left):
                # Those ahead of it do not fit behind this step, so they are not asked again.
                return (place, lefts[number:])
    return None


# The first tuple of places that the guards can take which are all the places of one of the wanted sets, or None.
def first_into(takes, guards, wanted):
    told = []
    lefts = wanted
    for number, guard in enumerate(guards, start=1):
        step = first_step(takes, guard, guards[number:], lefts)
        if step is None:
            return None
        told.append(step[0])
        lefts = step[1]
    return tuple(told)
