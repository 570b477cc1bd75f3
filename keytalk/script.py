"""A script while it's told: parties, a range of units, words, places and their ways."""

from keytalk.hand import GREATEST_UNIT, Units, sent_of_word
from keytalk.parts import END
from keytalk.refusals import FULL, NO_SUCH, TWICE, WRONG
from keytalk.spelling import is_word

FEWEST_PARTIES = 2
MOST_PARTIES = 8
WORDS_IN_ALL = 64
PLACES_IN_ALL = 32
WAYS_OF_A_PLACE = 4


class Way:
    def __init__(self, word, behind):
        self.word = word
        self.behind = behind


class Place:
    def __init__(self, speaker, hearer):
        self.speaker = speaker
        self.hearer = hearer
        self.ways = []


def begin_refusal(parties, lo, hi, slack):
    if not FEWEST_PARTIES <= parties <= MOST_PARTIES:
        return WRONG
    if not 1 <= lo <= GREATEST_UNIT:
        return WRONG
    if not lo <= hi <= GREATEST_UNIT:
        return WRONG
    if slack >= lo:
        return WRONG
    return 0


class Script:
    def __init__(self, parties, lo, hi, slack):
        self.parties = parties
        self.units = Units(lo, hi)
        self.slack = slack
        self.words = []
        self.patterns = []
        self.places = []

    def tell_word(self, letters):
        if not is_word(letters):
            return WRONG
        if letters in self.words:
            return self.words.index(letters)
        if len(self.words) == WORDS_IN_ALL:
            return FULL
        self.words.append(letters)
        self.patterns.append(sent_of_word(letters))
        return len(self.words) - 1

    def tell_place(self, speaker, hearer):
        if speaker >= self.parties or hearer >= self.parties or speaker == hearer:
            return WRONG
        if len(self.places) == PLACES_IN_ALL:
            return FULL
        self.places.append(Place(speaker, hearer))
        return len(self.places) - 1

    def tell_way(self, q, word, behind):
        if q >= len(self.places):
            return NO_SUCH
        if word >= len(self.words) or (behind >= PLACES_IN_ALL and behind != END):
            return WRONG
        ways = self.places[q].ways
        if word in [way.word for way in ways]:
            return TWICE
        if len(ways) == WAYS_OF_A_PLACE:
            return FULL
        ways.append(Way(word, behind))
        return len(ways)

    def leads_somewhere(self, place):
        return all([way.behind == END or way.behind < len(self.places) for way in place.ways])

    def is_whole(self):
        if not self.places:
            return False
        return all([len(place.ways) > 0 and self.leads_somewhere(place) for place in self.places])
