"""The desk: calls on one object, handed in as one list of numbers, and their answers in another."""

from keytalk.asking import answer_lengths, answer_letters, answer_likely, answer_many, answer_may
from keytalk.asking import answer_part, answer_said, answer_states, answer_turn, answer_units
from keytalk.parts import parts_of_all
from keytalk.refusals import BUSY, NOT_OPEN, NOT_WHOLE
from keytalk.script import Script, begin_refusal
from keytalk.talk import Talk

BEGIN = 0
WORD = 1
PLACE = 2
WAY = 3
OPEN = 4
DOWN = 5
UP = 6
AT = 7
AGAIN = 8
BACK = 9
TURN = 10
MAY = 11
LIKELY = 12
SAID = 13
MANY = 14
UNITS = 15
LENGTHS = 16
LETTERS = 17
STATES = 18

# How many whole numbers stand behind the number of each call; word has but its row.
WHOLE_NUMBERS = (4, 0, 2, 3, 0, 2, 2, 1, 0, 0, 0, 0, 0, 1, 0, 1, 3, 1, 1, 2)


# There's a talk if it's open, else None.
class Desk:
    def __init__(self):
        self.script = None
        self.talk = None

    def begin(self, parties, lo, hi, slack):
        refusal = begin_refusal(parties, lo, hi, slack)
        if refusal == 0:
            self.script = Script(parties, lo, hi, slack)
            self.talk = None
        return refusal

    def open_talk(self):
        if not self.script.is_whole():
            return NOT_WHOLE
        parts = parts_of_all(self.script.places, self.script.parties)
        refusal = parts[-1].refusal
        if refusal == 0:
            self.talk = Talk(self.script, parts)
        return refusal


# The calls that tell a script.
def answer_telling(desk, call, numbers):
    if desk.talk is not None:
        return BUSY
    if call == WORD:
        return desk.script.tell_word(numbers[1:])
    if call == PLACE:
        return desk.script.tell_place(numbers[0], numbers[1])
    if call == WAY:
        return desk.script.tell_way(numbers[0], numbers[1], numbers[2])
    return desk.open_talk()


# The calls by which a talk goes on.
def answer_talking(talk, call, numbers):
    if call == DOWN:
        return talk.down(numbers[0], numbers[1])
    if call == UP:
        return talk.up(numbers[0], numbers[1])
    if call == AT:
        return talk.at(numbers[0])
    if call == AGAIN:
        return talk.again()
    return talk.back()


# The calls that ask where a talk is, and what was said.
def answer_of_talk(talk, call, numbers):
    if call == TURN:
        return answer_turn(talk)
    if call == MAY:
        return answer_may(talk)
    if call == LIKELY:
        return answer_likely(talk)
    if call == SAID:
        return answer_said(talk, numbers[0])
    return answer_many(talk)


# The calls that ask about one party.
def answer_of_party(talk, call, numbers):
    if call == UNITS:
        return answer_units(talk, numbers[0])
    if call == LENGTHS:
        return answer_lengths(talk, numbers[0], numbers[1], numbers[2])
    if call == STATES:
        return answer_states(talk, numbers[0])
    return answer_part(talk, numbers[0], numbers[1])


def answer(desk, call, numbers):
    if call == BEGIN:
        return [desk.begin(numbers[0], numbers[1], numbers[2], numbers[3])]
    if call <= OPEN:
        return [answer_telling(desk, call, numbers)]
    if call == LETTERS:
        return answer_letters(desk.script, numbers[0])
    if desk.talk is None:
        return [NOT_OPEN]
    if call <= BACK:
        return [answer_talking(desk.talk, call, numbers)]
    if call <= MANY:
        return answer_of_talk(desk.talk, call, numbers)
    return answer_of_party(desk.talk, call, numbers)


def end_of_call(calls, start):
    if calls[start] == WORD:
        return start + 2 + calls[start + 1]
    return start + 1 + WHOLE_NUMBERS[calls[start]]


def answers(calls):
    desk = Desk()
    answered = []
    start = 0
    while start < len(calls):
        end = end_of_call(calls, start)
        numbers = answer(desk, calls[start], calls[start + 1:end])
        answered.append(len(numbers))
        answered.extend(numbers)
        start = end
    return answered
