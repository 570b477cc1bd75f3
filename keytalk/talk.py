"""A talk by a script that's open: what comes by the key, what's said, and taking back."""

from keytalk.parts import END
from keytalk.refusals import BUSY, FULL, NOT_YOURS, NOTHING_THERE, WRONG
from keytalk.spelling import MOST_LENGTHS, Came, is_over, units_of_word

THINGS_IN_ALL = 64
TICKS_IN_ALL = 2147483648


# A thing that's said; former are the units that might be the speaker's before it.
class Thing:
    def __init__(self, place, word, tick, former):
        self.place = place
        self.word = word
        self.tick = tick
        self.former = former


# A way of the place, and the units by which it may be said.
class Choice:
    def __init__(self, way, units):
        self.way = way
        self.units = units


class Talk:
    def __init__(self, script, parts):
        self.script = script
        self.parts = parts
        self.here = 0
        self.units = [script.units for party in range(script.parties)]
        self.came = Came()
        self.now = 0
        self.said = []

    def speaks(self, party):
        return self.here != END and self.script.places[self.here].speaker == party

    def is_tick_ahead(self, tick):
        return self.now <= tick < TICKS_IN_ALL

    def key_refusal(self, party, tick, pressed):
        if party >= self.script.parties:
            return WRONG
        if not self.speaks(party):
            return NOT_YOURS
        if not self.is_tick_ahead(tick):
            return WRONG
        if self.came.pressed == pressed:
            return BUSY
        if self.came.begun() and tick <= self.came.turned:
            return WRONG
        if len(self.came.lengths) == MOST_LENGTHS:
            return FULL
        return 0

    def turn_key(self, party, tick, pressed):
        refusal = self.key_refusal(party, tick, pressed)
        if refusal == 0:
            self.came.turn_key(tick)
            self.now = tick
        return refusal

    def down(self, party, tick):
        return self.turn_key(party, tick, True)

    def up(self, party, tick):
        return self.turn_key(party, tick, False)

    def units_of_way(self, way, tick):
        pattern = self.script.patterns[way.word]
        mine = self.units[self.script.places[self.here].speaker]
        return units_of_word(pattern, self.came, tick, mine, self.script.slack)

    # The ways of the place, each with the units by which it may be said, by what came till that tick; none at the end.
    def all_ways(self, tick):
        if self.here == END:
            return []
        ways = self.script.places[self.here].ways
        return [Choice(way, self.units_of_way(way, tick)) for way in ways]

    def choices(self, tick):
        return [choice for choice in self.all_ways(tick) if choice.units.any_left()]

    # What's said by that tick, or None. The words of a place are all different, so one choice is one word.
    def choice_said(self, tick):
        choices = self.choices(tick)
        if len(choices) != 1:
            return None
        choice = choices[0]
        pattern = self.script.patterns[choice.way.word]
        if is_over(pattern, self.came, tick, choice.units, self.script.slack):
            return choice
        return None

    def say(self, choice):
        speaker = self.script.places[self.here].speaker
        self.said.append(Thing(self.here, choice.way.word, self.now, self.units[speaker]))
        self.units[speaker] = choice.units
        self.here = choice.way.behind
        self.came = Came()

    def at(self, tick):
        if not self.is_tick_ahead(tick):
            return WRONG
        choice = self.choice_said(tick)
        if choice is not None and len(self.said) == THINGS_IN_ALL:
            return FULL
        self.now = tick
        if choice is None:
            return 0
        self.say(choice)
        return 1

    def again(self):
        there_were = len(self.came.lengths)
        self.came = Came()
        return there_were

    def back(self):
        if not self.said:
            return NOTHING_THERE
        thing = self.said.pop()
        self.here = thing.place
        self.units[self.script.places[thing.place].speaker] = thing.former
        self.came = Came()
        return thing.word
