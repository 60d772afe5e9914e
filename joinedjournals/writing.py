"""Writing a party's journal in its one form."""

from joinedjournals.facts import (
    CORRECTED_NUMBER, CORRECTED_PARTY, CORRECTION, DAY, ENTRY, KIND, KNOWN, NUMBER, OTHER_DAY, OTHER_PARTY, PARTY,
    TEXT,
)
from joinedjournals.signs import (
    BLANK, COMMA, HYPHEN, LETTER_C, LETTER_D, LETTER_E, LETTER_M, LINE_END, write_number, write_party,
)


def write_journal(facts, party):
    written = []
    day = None
    for fact in [told for told in facts if told[PARTY] == party]:
        if fact[DAY] != day:
            day = fact[DAY]
            written.extend(write_line([[LETTER_D], write_number(day)]))
        written.extend(write_line(fact_parts(fact)))
    return written


# The parts with a blank between each two, and the line's end.
def write_line(parts):
    line = list(parts[0])
    for part in parts[1:]:
        line.append(BLANK)
        line.extend(part)
    line.append(LINE_END)
    return line


# What stands between the blanks of the fact's line.
def fact_parts(fact):
    if fact[KIND] == ENTRY:
        return [[LETTER_E], write_number(fact[NUMBER]), fact[TEXT]]
    if fact[KIND] == CORRECTION:
        corrected_party = write_party(fact[CORRECTED_PARTY])
        corrected_number = write_number(fact[CORRECTED_NUMBER])
        known = write_known(fact[KNOWN])
        return [[LETTER_C], write_number(fact[NUMBER]), corrected_party, corrected_number, known, fact[TEXT]]
    return [[LETTER_M], write_party(fact[OTHER_PARTY]), write_number(fact[OTHER_DAY])]


def write_known(known):
    if len(known) == 0:
        return [HYPHEN]
    signs = []
    for pair in known:
        if len(signs) > 0:
            signs.append(COMMA)
        signs.extend(write_party(pair[0]))
        signs.extend(write_number(pair[1]))
    return signs
