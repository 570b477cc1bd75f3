"""The desk: calls on one object, handed in as one list of numbers, and their answers in another."""

from keytalk.refusals import BUSY, NOT_OPEN
from keytalk.script import Script, begin_refusal
from keytalk.talk import Talk

BEGIN = 0
WORD = 1
PLACE = 2
WAY = 3
OPEN = 4
DOWN = 5
UP = 6
AT = 7
AGAIN = 8

# How many whole numbers stand behind the number of each call; word has but its row.
WHOLE_NUMBERS = (4, 0, 2, 3, 0, 2, 2, 1, 0, 0)


# There's a talk if it's open, else None.
class Desk:
    def __init__(self):
        self.script = None
        self.talk = None

    def begin(self, parties, lo, hi, slack):
        refusal = begin_refusal(parties, lo, hi, slack)
        if refusal == 0:
            self.script = Script(parties, lo, hi, slack)
            self.talk = None
        return refusal

    def open_talk(self):
        refusal = self.script.open_refusal()
        if refusal == 0:
            self.talk = Talk(self.script)
        return refusal


# The calls that tell a script.
def answer_telling(desk, call, numbers):
    if desk.talk is not None:
        return BUSY
    if call == WORD:
        return desk.script.tell_word(numbers[1:])
    if call == PLACE:
        return desk.script.tell_place(numbers[0], numbers[1])
    if call == WAY:
        return desk.script.tell_way(numbers[0], numbers[1], numbers[2])
    return desk.open_talk()


# The calls that need it to be open.
def answer_talking(talk, call, numbers):
    if talk is None:
        return NOT_OPEN
    if call == DOWN:
        return talk.down(numbers[0], numbers[1])
    if call == UP:
        return talk.up(numbers[0], numbers[1])
    if call == AT:
        return talk.at(numbers[0])
    if call == AGAIN:
        return talk.again()
    return talk.back()


def answer(desk, call, numbers):
    if call == BEGIN:
        return desk.begin(numbers[0], numbers[1], numbers[2], numbers[3])
    if call <= OPEN:
        return answer_telling(desk, call, numbers)
    return answer_talking(desk.talk, call, numbers)


def end_of_call(calls, start):
    if calls[start] == WORD:
        return start + 2 + calls[start + 1]
    return start + 1 + WHOLE_NUMBERS[calls[start]]


def answers(calls):
    desk = Desk()
    answered = []
    start = 0
    while start < len(calls):
        end = end_of_call(calls, start)
        answered.append(1)
        answered.append(answer(desk, calls[start], calls[start + 1:end]))
        start = end
    return answered
