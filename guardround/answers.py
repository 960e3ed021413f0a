"""Answers to a call, and where a standing leads."""

from guardround.errors import NoCall
from guardround.fitting import bits_of, first_into, fits, takes_of
from guardround.webs import near


def refuse_no_call(web, standing, call):
    if not 0 <= call < web.places or call in standing:
        raise NoCall("a call comes from a place of the web without a guard")


def answers(web, standing, call, kind):
    refuse_no_call(web, standing, call)
    if kind == "one":
        movers = [guard for guard in standing if guard in near(web, call)]
        return sorted([with_step(standing, guard, call) for guard in movers])
    return answers_of_all(web, standing, call)


def with_step(standing, guard, place):
    return tuple([place if other == guard else other for other in standing])


def answers_of_all(web, standing, call):
    takes = takes_of(web)
    begun = [()]
    for number, guard in enumerate(standing, start=1):
        rest = standing[number:]
        longer = []
        for told in begun:
            steps = [told + (place,) for place in takes[guard] if place not in told]
            longer.extend([step for step in steps if can_end(takes, step, rest, call)])
        begun = longer
    return begun


def can_end(takes, told, rest, call):
    # Where the rest can be put somewhere, and one of them at the call, both can be done at once.
    if call not in told and not any([call in takes[guard] for guard in rest]):
        return False
    everywhere = (1 << len(takes)) - 1
    return fits(takes, rest, everywhere ^ bits_of(told))


def is_answer(web, standing, call, kind, told):
    if len(told) != len(standing) or len(set(told)) != len(told) or call not in told:
        return False
    steps = [(guard, place) for guard, place in zip(standing, told) if guard != place]
    if not all([place in near(web, guard) for guard, place in steps]):
        return False
    return kind == "all" or len(steps) == 1


def leads(web, standing, other):
    return first_into(takes_of(web), standing, [bits_of(other)])
