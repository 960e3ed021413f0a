"""Rows of calls that are told ahead, and how far they can be gone along."""

from guardround.duel import Field
from guardround.fitting import members
from guardround.webs import refuse_no_place


def row_answered(web, standing, calls, kind):
    for call in calls:
        refuse_no_place(web, call)
    field = Field(web, len(standing), kind)
    start = field.numbers[standing]
    layers = layers_along(field, start, calls)
    if layers[-1] == 0:
        return (len(layers) - 2, [field.everything[number] for number in members(layers[-2])])
    return (answers_along(field, start, calls, kept_layers(field, layers, calls)), None)


def next_ones(field, number, call):
    if call in field.everything[number]:
        return 1 << number
    return field.behind(number, call)


# The standings that can be come to, behind no call, behind one and so on, up to the first time that there are none.
def layers_along(field, start, calls):
    layers = [1 << start]
    for call in calls:
        reached = 0
        for number in members(layers[-1]):
            reached |= next_ones(field, number, call)
        layers.append(reached)
        if reached == 0:
            break
    return layers


# Of each layer only those standings from which the whole row can be gone along.
def kept_layers(field, layers, calls):
    kept = [layers[-1]]
    for call, layer in reversed(list(zip(calls, layers))):
        going_on = 0
        for number in members(layer):
            if next_ones(field, number, call) & kept[-1]:
                going_on |= 1 << number
        kept.append(going_on)
    kept.reverse()
    return kept


def answers_along(field, start, calls, kept):
    told = []
    here = start
    for call, layer in zip(calls, kept[1:]):
        if call in field.everything[here]:
            told.append(field.everything[here])
        else:
            told.append(field.first_answer(here, call, field.behind(here, call) & layer))
            here = field.numbers[tuple(sorted(told[-1]))]
    return told
