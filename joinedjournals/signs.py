"""The signs of a journal's text, and the numbers and letters that are written with them."""

LINE_END = 10
BLANK = 32
LAST_PLAIN_SIGN = 126
COMMA = 44
HYPHEN = 45
DIGIT_ZERO = 48
DIGIT_NINE = 57
LETTER_A = 65
LETTER_C = 67
LETTER_D = 68
LETTER_E = 69
LETTER_F = 70
LETTER_M = 77

MOST_DIGITS = 4
MOST_TEXT_SIGNS = 40


# The signs parted at each mark, until there are as many parts as most says; the last part is all that's left.
def parted(signs, mark, most):
    parts = []
    part = []
    for sign in signs:
        if sign == mark and len(parts) < most - 1:
            parts.append(part)
            part = []
        else:
            part.append(sign)
    parts.append(part)
    return parts


# The number that is written so, or -1 if none is.
def read_number(signs):
    if not 1 <= len(signs) <= MOST_DIGITS:
        return -1
    if signs[0] == DIGIT_ZERO and len(signs) > 1:
        return -1
    number = 0
    for sign in signs:
        if not DIGIT_ZERO <= sign <= DIGIT_NINE:
            return -1
        number = number * 10 + sign - DIGIT_ZERO
    return number


def write_number(number):
    return [ord(digit) for digit in str(number)]


# The party whose letter is written so, or -1 if none is.
def read_party(signs):
    if len(signs) != 1 or not LETTER_A <= signs[0] <= LETTER_F:
        return -1
    return signs[0] - LETTER_A


def write_party(party):
    return [LETTER_A + party]


# Whether the signs may be the text of an entry or of a correction.
def is_text(signs):
    return len(signs) <= MOST_TEXT_SIGNS and all([BLANK <= sign <= LAST_PLAIN_SIGN for sign in signs])


# Whether the signs come one behind another in the text; both are tuples.
def is_within(signs, text):
    return any([text[at:at + len(signs)] == signs for at in range(len(text) - len(signs) + 1)])
