"""Facts. Each is a tuple, laid out so that the order of tuples is the heap's order:

an entry: party, day, ENTRY, number, text;
a correction: party, day, CORRECTION, number, corrected party, entry's number, how many were known, these, text;
a meeting: party, day, MEETING, the other party, its day.

A text is a tuple of signs. What was known is a tuple of pairs (party, number) in rising order, so that facts that
tell the same set are the same tuple. A heap's facts are a list of such tuples, in order, each once.
"""

PARTY = 0
DAY = 1
KIND = 2
NUMBER = 3
CORRECTED_PARTY = 4
CORRECTED_NUMBER = 5
KNOWN_COUNT = 6
KNOWN = 7
OTHER_PARTY = 3
OTHER_DAY = 4
TEXT = -1

ENTRY = 0
CORRECTION = 1
MEETING = 2


def make_entry(party, day, number, text):
    return (party, day, ENTRY, number, tuple(text))


# corrected is the pair (party, number) of the entry, known a list of pairs in any order.
def make_correction(party, day, number, corrected, known, text):
    return (party, day, CORRECTION, number, corrected[0], corrected[1], len(known), tuple(sorted(known)), tuple(text))


def make_meeting(party, day, other_party, other_day):
    return (party, day, MEETING, other_party, other_day)


# Whether the fact is of this kind (ENTRY or CORRECTION), party and number.
def is_told_as(fact, kind, party, number):
    return fact[KIND] == kind and fact[PARTY] == party and fact[NUMBER] == number


# Whether the fact is a correction of the party's entry of this number.
def is_correction_of(fact, party, number):
    return fact[KIND] == CORRECTION and fact[CORRECTED_PARTY] == party and fact[CORRECTED_NUMBER] == number


def facts_of_kind(facts, kind):
    return [fact for fact in facts if fact[KIND] == kind]


def facts_told_as(facts, kind, party, number):
    return [fact for fact in facts if is_told_as(fact, kind, party, number)]


def writer_and_number(fact):
    return (fact[PARTY], fact[NUMBER])


# All entries that somebody tells, each once, as pairs (party, number) in rising order.
def told_entries(facts):
    return sorted(set([writer_and_number(fact) for fact in facts_of_kind(facts, ENTRY)]))
