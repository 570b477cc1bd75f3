"""Lengths of a hand: the units that may be somebody's, and what is sent of letters."""

SHORT = 1
LONG = 3
LETTER_GAP = 3
GREATEST_UNIT = 4096

DIGIT_SIGNS = ("-----", ".----", "..---", "...--", "....-", ".....", "-....", "--...", "---..", "----.")

# From A to Z.
LETTER_SIGNS = (
    ".-", "-...", "-.-.", "-..", ".", "..-.", "--.", "....", "..", ".---", "-.-", ".-..", "--",
    "-.", "---", ".--.", "--.-", ".-.", "...", "-", "..-", "...-", ".--", "-..-", "-.--", "--..",
)


# A range of units, from the least to the greatest; none are in it where the least is above the greatest.
# A range is enough: whatever came, each length leaves a range of units, and so do all of them together.
# It is never changed, so that it can be kept for taking back.
class Units:
    def __init__(self, least, greatest):
        self.least = least
        self.greatest = greatest

    def any_left(self):
        return self.least <= self.greatest

    def how_many(self):
        return max(self.greatest - self.least + 1, 0)


def divided_up(number, by):
    return (number + by - 1) // by


# Those of the units by which a length that is over may be so many of them.
def units_of_length(units, length, times, slack):
    least = divided_up(length - slack, times)
    greatest = (length + slack) // times
    return Units(max(units.least, least), min(units.greatest, greatest))


# Those of the units by which what goes on has not yet lasted longer than so many of them.
def units_not_outlasted(units, lasted, times, slack):
    return Units(max(units.least, divided_up(lasted - slack, times)), units.greatest)


def is_digit(byte):
    return ord("0") <= byte <= ord("9")


def is_letter(byte):
    return ord("A") <= byte <= ord("Z")


def signs_of(byte):
    if is_digit(byte):
        return DIGIT_SIGNS[byte - ord("0")]
    return LETTER_SIGNS[byte - ord("A")]


def sent_of_letter(byte):
    sent = []
    for sign in signs_of(byte):
        if sent:
            sent.append(SHORT)
        sent.append(SHORT if sign == "." else LONG)
    return sent


# Marks and gaps in turn, in units.
def sent_of_word(letters):
    sent = []
    for byte in letters:
        if sent:
            sent.append(LETTER_GAP)
        sent.extend(sent_of_letter(byte))
    return sent
