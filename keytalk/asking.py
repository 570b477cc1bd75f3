"""What can be asked of a talk: each answer is a row of numbers, and nothing is changed."""

from keytalk.parts import END
from keytalk.refusals import FULL, NO_SUCH, NOTHING_THERE, SEVERAL, WRONG


def answer_turn(talk):
    if talk.here == END:
        return [0]
    place = talk.script.places[talk.here]
    return [1, talk.here, place.speaker, place.hearer]


def answer_may(talk):
    choices = talk.all_ways(talk.now)
    answer = [len(choices)]
    for choice in choices:
        answer.append(choice.way.word)
        answer.append(choice.units.how_many())
    return answer


def answer_likely(talk):
    choices = talk.choices(talk.now)
    if not choices:
        return [NOTHING_THERE]
    if len(choices) > 1:
        return [SEVERAL]
    return [choices[0].way.word]


def answer_said(talk, number):
    if number >= len(talk.said):
        return [NO_SUCH]
    thing = talk.said[number]
    return [0, thing.place, thing.word, thing.tick]


def answer_many(talk):
    return [len(talk.said)]


def answer_units(talk, party):
    if party >= talk.script.parties:
        return [WRONG]
    units = talk.units[party]
    return [units.how_many(), units.least, units.greatest]


def answer_lengths(talk, party, word, room):
    if party >= talk.script.parties or word >= len(talk.script.words):
        return [WRONG]
    pattern = talk.script.patterns[word]
    if len(pattern) > room:
        return [FULL]
    unit = talk.units[party].least
    return [len(pattern)] + [times * unit for times in pattern]


# Words can be asked for before there is a talk, so it's asked of the script.
def answer_letters(script, word):
    if word >= len(script.words):
        return [NO_SUCH]
    letters = script.words[word]
    return [len(letters)] + letters


def answer_states(talk, party):
    if party >= talk.script.parties:
        return [WRONG]
    return [len(talk.parts[party].rows)]


def answer_part(talk, party, number):
    if party >= talk.script.parties:
        return [WRONG]
    rows = talk.parts[party].rows
    if number >= len(rows):
        return [NO_SUCH]
    return [0] + rows[number]
