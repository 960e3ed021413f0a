"""The duel: which standings last, and in which round and at which call the others fall."""

from guardround.answers import with_step
from guardround.fitting import bits_of, first_into, fits, members, takes_of
from guardround.standings import standings


# All standings of a web, a number of guards and a kind, by their numbers, and where they lead. Many standings at once
# are the bits of a whole number, for a duel asks again and again which of the ones behind a call are left.
class Field:
    def __init__(self, web, guards, kind):
        self.everything = standings(web, guards)
        self.kind = kind
        self.takes = takes_of(web)
        self.numbers = {}
        self.having = [0 for place in range(web.places)]
        for number, standing in enumerate(self.everything):
            self.numbers[standing] = number
            for place in standing:
                self.having[place] |= 1 << number
        self.place_bits = [bits_of(standing) for standing in self.everything]
        self.known = {}

    def calls(self, number):
        standing = self.everything[number]
        return [place for place in range(len(self.takes)) if place not in standing]

    def linked(self, number):
        # Whatever is called: most calls of a standing lead to many of the same ones.
        if number not in self.known:
            self.known[number] = self.linked_by_one(number) if self.kind == "one" else self.linked_by_all(number)
        return self.known[number]

    def linked_by_one(self, number):
        standing = self.everything[number]
        told = 0
        for guard in standing:
            for place in self.takes[guard]:
                if place not in standing:
                    told |= 1 << self.numbers[tuple(sorted(with_step(standing, guard, place)))]
        return told

    def linked_by_all(self, number):
        standing = self.everything[number]
        told = 0
        for other, bits in enumerate(self.place_bits):
            if fits(self.takes, standing, bits):
                told |= 1 << other
        return told

    def behind(self, number, call):
        return self.linked(number) & self.having[call]

    # The wanted standings are some of those behind the call, one at least.
    def first_answer(self, number, call, wanted):
        standing = self.everything[number]
        if self.kind == "all":
            return first_into(self.takes, standing, [self.place_bits[other] for other in members(wanted)])
        told = []
        for other in members(wanted):
            told.append(tuple([guard if guard in self.everything[other] else call for guard in standing]))
        return min(told)


# By the number of each standing that falls: its round and its call.
def fallen(field):
    told = {}
    left = (1 << len(field.everything)) - 1
    stage = 1
    falling = falling_now(field, left)
    while falling:
        for number in falling:
            told[number] = (stage, falling[number])
            left ^= 1 << number
        stage += 1
        falling = falling_now(field, left)
    return told


def falling_now(field, left):
    told = {}
    for number in members(left):
        lost = [call for call in field.calls(number) if field.behind(number, call) & left == 0]
        if lost:
            told[number] = lost[0]
    return told


def lasting_bits(field, gone):
    return sum([1 << number for number in range(len(field.everything)) if number not in gone])


def lasting(web, guards, kind):
    field = Field(web, guards, kind)
    return [field.everything[number] for number in members(lasting_bits(field, fallen(field)))]


def falls(web, guards, kind):
    field = Field(web, guards, kind)
    gone = fallen(field)
    return [(field.everything[number],) + gone[number] for number in sorted(gone)]
