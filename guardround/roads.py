"""Short roads of the kind one: answers within clubs, and calls from a set that stands apart."""

from guardround.answers import refuse_no_call, with_step


def club_answer(web, clubs, standing, call):
    refuse_no_call(web, standing, call)
    club = [some for some in clubs if call in some][0]
    guard = [place for place in standing if place in club][0]
    return with_step(standing, guard, call)


def apart_call(web, some, standing):
    return min([place for place in some if place not in standing], default=None)
