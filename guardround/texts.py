"""Webs written as texts."""

from guardround.errors import BadText
from guardround.webs import MOST_PLACES, Web

FIGURES = "0123456789"
MOST_FIGURES = 2


def web_text(web):
    places = web.places
    rows = [f"places {places}"]
    rows.extend([f"tie {one} {other}" for one, other in web.ties])
    return "\n".join(rows)


# The whole number that a word writes, or None where it is not written as numbers are.
def number_in(word):
    if not 1 <= len(word) <= MOST_FIGURES or not all([sign in FIGURES for sign in word]):
        return None
    if len(word) > 1 and word[0] == "0":
        return None
    return int(word)


# The numbers that follow the first word of a row, or None where the row is not that word and so many numbers.
def numbers_behind(row, first, many):
    words = row.split(" ")
    numbers = [number_in(word) for word in words[1:]]
    if words[0] != first or len(numbers) != many or None in numbers:
        return None
    return numbers


def web_of(text):
    rows = text.split("\n")
    head = numbers_behind(rows[0], "places", 1)
    if head is None or not 1 <= head[0] <= MOST_PLACES:
        raise BadText(1)
    ties = [(-1, -1)]
    for number, row in enumerate(rows[1:], start=2):
        ends = numbers_behind(row, "tie", 2)
        if ends is None or not ends[0] < ends[1] < head[0] or not ties[-1] < tuple(ends):
            raise BadText(number)
        ties.append(tuple(ends))
    return Web(head[0], ties[1:])
