"""The examiner: whether a paper holds, whoever wrote it."""

from guardround.answers import is_answer
from guardround.duel import Field
from guardround.fitting import members


def is_whole(thing):
    return isinstance(thing, int) and not isinstance(thing, bool)


def are_whole(things):
    return isinstance(things, tuple) and all([is_whole(thing) for thing in things])


def is_tuple_of(thing, length):
    return isinstance(thing, tuple) and len(thing) == length


def is_standing(web, guards, thing):
    if not is_tuple_of(thing, guards) or not are_whole(thing):
        return False
    return list(thing) == sorted(set(thing)) and 0 <= thing[0] and thing[-1] < web.places


def standings_listed(web, guards, paper, length):
    # None where an entry is not of that length, or begins with no standing or with one that was there already.
    if not isinstance(paper, list):
        return None
    listed = {}
    for entry in paper:
        if not is_tuple_of(entry, length) or not is_standing(web, guards, entry[0]) or entry[0] in listed:
            return None
        listed[entry[0]] = True
    return listed


def guide_holds(web, guards, kind, paper):
    listed = standings_listed(web, guards, paper, 2)
    if not listed:
        return False
    return all([rows_hold(web, kind, standing, rows, listed) for standing, rows in paper])


def rows_hold(web, kind, standing, rows, listed):
    calls = [place for place in range(web.places) if place not in standing]
    if not is_tuple_of(rows, len(calls)):
        return False
    return all([row_holds(web, kind, standing, call, row, listed) for call, row in zip(calls, rows)])


def row_holds(web, kind, standing, call, row, listed):
    if not is_tuple_of(row, 2) or not is_whole(row[0]) or row[0] != call or not are_whole(row[1]):
        return False
    return is_answer(web, standing, call, kind, row[1]) and tuple(sorted(row[1])) in listed


def caller_holds(web, guards, kind, paper):
    field = Field(web, guards, kind)
    listed = standings_listed(web, guards, paper, 3)
    if listed is None or len(listed) < len(field.everything):
        return False
    if not all([call_stands(web, standing, number, call) for standing, number, call in paper]):
        return False
    heights = {}
    for standing, number, call in paper:
        heights[field.numbers[standing]] = number
    return all([falls_behind(field, heights, field.numbers[standing], call) for standing, number, call in paper])


def call_stands(web, standing, number, call):
    if not is_whole(number) or number < 1 or not is_whole(call):
        return False
    return 0 <= call < web.places and call not in standing


def falls_behind(field, heights, at, call):
    return all([heights[other] < heights[at] for other in members(field.behind(at, call))])
