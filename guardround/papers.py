"""The papers of a duel: the guide's and the caller's."""

from guardround.duel import Field, fallen, falls, lasting_bits
from guardround.fitting import members
from guardround.standings import how_many


def guide_paper(web, guards, kind):
    field = Field(web, guards, kind)
    kept = lasting_bits(field, fallen(field))
    if kept == 0:
        return None
    return [(field.everything[number], guide_rows(field, number, kept)) for number in members(kept)]


def guide_rows(field, number, kept):
    return tuple([(call, guide_answer(field, number, call, kept)) for call in field.calls(number)])


def guide_answer(field, number, call, kept):
    return field.first_answer(number, call, field.behind(number, call) & kept)


def caller_paper(web, guards, kind):
    paper = falls(web, guards, kind)
    # Where one standing lasts, the paper of the others would not be one of all.
    return paper if len(paper) == how_many(web, guards) else None
