"""A word among few: what came by the key, and by which units it may be a word."""

from keytalk.hand import LETTER_GAP, Units, is_digit, is_letter, units_not_outlasted, units_of_length

MOST_LETTERS = 12
MOST_LENGTHS = 160
LONGEST = 1000000


def is_word(letters):
    if not 1 <= len(letters) <= MOST_LETTERS:
        return False
    return all([is_digit(byte) or is_letter(byte) for byte in letters])


# The lengths that are over, and whether a mark or a gap goes on since the key turned last.
class Came:
    def __init__(self):
        self.lengths = []
        self.pressed = False
        self.turned = 0

    def begun(self):
        return self.pressed or len(self.lengths) > 0

    def lasted(self, tick):
        return min(tick - self.turned, LONGEST)

    # Before the first mark there is no gap that could be over.
    def turn_key(self, tick):
        if self.begun():
            self.lengths.append(self.lasted(tick))
        self.pressed = not self.pressed
        self.turned = tick


# Those of the units by which the word of that pattern may be, by what came till that tick.
# What stands in the pattern behind the lengths is of the kind that goes on: both begin with a mark.
def units_of_word(pattern, came, tick, units, slack):
    over = len(came.lengths)
    if over > len(pattern):
        return Units(1, 0)
    for length, times in zip(came.lengths, pattern):
        units = units_of_length(units, length, times, slack)
    if came.begun() and over < len(pattern):
        units = units_not_outlasted(units, came.lasted(tick), pattern[over], slack)
    return units


# Asked only of units by which the word may be. By all of them it's over if it is by the greatest;
# and a gap goes on where the lengths are as many as the pattern's, as it ends with a mark.
def is_over(pattern, came, tick, units, slack):
    if len(came.lengths) != len(pattern):
        return False
    return came.lasted(tick) > LETTER_GAP * units.greatest + slack
