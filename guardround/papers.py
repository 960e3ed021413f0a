"""The papers of a duel: the guide's and the caller's."""

from guardround.duel import Field, fallen, falls
from guardround.standings import how_many


def guide_paper(web, guards, kind):
    field = Field(web, guards, kind)
    gone = fallen(field)
    lasting_ones = [number for number in range(len(field.everything)) if number not in gone]
    if not lasting_ones:
        return None
    kept = sum([1 << number for number in lasting_ones])
    return [(field.everything[number], guide_rows(field, number, kept)) for number in lasting_ones]


def guide_rows(field, number, kept):
    calls = field.calls(number)
    return tuple([(call, field.first_answer(number, call, field.behind(number, call) & kept)) for call in calls])


def caller_paper(web, guards, kind):
    paper = falls(web, guards, kind)
    # Where one standing lasts, the paper of the others would not be one of all.
    return paper if len(paper) == how_many(web, guards) else None
