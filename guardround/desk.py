"""The desk: a text of a web and of questions about it, and their answers."""

from guardround.answers import refuse_no_call
from guardround.duel import Field, fallen, lasting_bits
from guardround.errors import BadText, GuardError, NoPlace
from guardround.fewest import fewest, five
from guardround.papers import guide_answer
from guardround.texts import number_in, web_of

KINDS = ("one", "all")
REFUSED = "refused"


def answered(text):
    rows = text.split("\n")
    if "" not in rows:
        web_of(text)
        raise BadText(len(rows) + 1)
    end = rows.index("")
    desk = Desk(web_of("\n".join(rows[:end])))
    return [desk.reply(row) for row in rows[end + 1:]]


def written(numbers):
    return " ".join([str(number) for number in numbers])


def standing_in(web, words):
    places = [number_in(word) for word in words]
    if not places or None in places or places != sorted(set(places)) or places[-1] >= web.places:
        raise NoPlace("these are no rising places of the web")
    return tuple(places)


class Desk:
    # Rows come again, and many rows ask about one duel, which takes long to be gone through.
    def __init__(self, web):
        self.web = web
        self.replies = {}
        self.duels = {}

    def reply(self, row):
        if row not in self.replies:
            self.replies[row] = self.reply_anew(row.split(" "))
        return self.replies[row]

    def reply_anew(self, words):
        try:
            return self.right_reply(words)
        except GuardError:
            return REFUSED

    def right_reply(self, words):
        if words == ["five"]:
            return written(five(self.web))
        if len(words) < 2 or words[1] not in KINDS:
            return REFUSED
        if words[0] == "fewest" and len(words) == 2:
            return written([fewest(self.web, words[1])])
        if words[0] == "lasts":
            return self.fate(words[1], standing_in(self.web, words[2:]))
        if words[0] == "call":
            call = standing_in(self.web, words[2:3])[0]
            return self.answer_to(words[1], call, standing_in(self.web, words[3:]))
        return REFUSED

    # The field of so many guards, and what falls on it.
    def duel(self, kind, guards):
        if (kind, guards) not in self.duels:
            field = Field(self.web, guards, kind)
            self.duels[(kind, guards)] = (field, fallen(field))
        return self.duels[(kind, guards)]

    def fate(self, kind, standing):
        duel = self.duel(kind, len(standing))
        number = duel[0].numbers[standing]
        if number not in duel[1]:
            return "lasts"
        stage = duel[1][number][0]
        call = duel[1][number][1]
        return f"falls in round {stage} at {call}"

    def answer_to(self, kind, call, standing):
        refuse_no_call(self.web, standing, call)
        duel = self.duel(kind, len(standing))
        number = duel[0].numbers[standing]
        if number in duel[1]:
            return "beaten"
        return written(guide_answer(duel[0], number, call, lasting_bits(duel[0], duel[1])))
