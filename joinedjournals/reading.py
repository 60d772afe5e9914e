"""Reading the text of a party's journal."""

from joinedjournals.facts import make_correction, make_entry, make_meeting
from joinedjournals.signs import (
    BLANK, COMMA, HYPHEN, LETTER_C, LETTER_D, LETTER_E, LETTER_M, LINE_END, is_text, parted, read_number, read_party,
)

MOST_KNOWN = 4
DAY_NOT_TOLD = -1


# What was read of a text: its facts as they came, and the number of its first wrong line, 0 if there's none.
class Reading:
    def __init__(self, facts, wrong_line):
        self.facts = facts
        self.wrong_line = wrong_line


def read_journal(party, text):
    facts = []
    day = DAY_NOT_TOLD
    # What's behind the last line's end counts as a line here even if it's empty: it's passed over all the same.
    for line_number, line in enumerate(parted(text, LINE_END, len(text) + 1), start=1):
        if line[:1] == [LETTER_D]:
            day = read_day(parted(line, BLANK, 2))
            if day < 0:
                return Reading([], line_number)
        elif len(line) > 0:
            fact = read_fact(party, day, line)
            if fact is None:
                return Reading([], line_number)
            facts.append(fact)
    return Reading(facts, 0)


# The day that a D line tells, or -1 if the line is wrong.
def read_day(parts):
    if len(parts) != 2 or parts[0] != [LETTER_D]:
        return -1
    return read_number(parts[1])


# The fact that an E, C or M line tells, or None if the line is wrong.
def read_fact(party, day, line):
    if day < 0:
        return None
    head = parted(line, BLANK, 2)[0]
    if head == [LETTER_E]:
        return read_entry(party, day, parted(line, BLANK, 3))
    if head == [LETTER_C]:
        return read_correction(party, day, parted(line, BLANK, 6))
    if head == [LETTER_M]:
        return read_meeting(party, day, parted(line, BLANK, 3))
    return None


def read_entry(party, day, parts):
    if len(parts) != 3 or not is_text(parts[2]):
        return None
    number = read_number(parts[1])
    if number < 1:
        return None
    return make_entry(party, day, number, parts[2])


def read_correction(party, day, parts):
    if len(parts) != 6 or not is_text(parts[5]):
        return None
    number = read_number(parts[1])
    corrected = (read_party(parts[2]), read_number(parts[3]))
    if number < 1 or corrected[0] < 0 or corrected[1] < 1:
        return None
    known = read_known((party, number), parts[4])
    if known is None:
        return None
    return make_correction(party, day, number, corrected, known, parts[5])


# The pairs (party, number) that are told as known in this correction, itself such a pair; None if wrong.
def read_known(correction, signs):
    if signs == [HYPHEN]:
        return []
    words = parted(signs, COMMA, MOST_KNOWN + 1)
    if len(words) > MOST_KNOWN:
        return None
    known = []
    for word in words:
        pair = (read_party(word[:1]), read_number(word[1:]))
        if pair[0] < 0 or pair[1] < 1 or pair in known or pair == correction:
            return None
        known.append(pair)
    return known


def read_meeting(party, day, parts):
    if len(parts) != 3:
        return None
    other_party = read_party(parts[1])
    other_day = read_number(parts[2])
    if other_party < 0 or other_party == party or other_day < 0:
        return None
    return make_meeting(party, day, other_party, other_day)
