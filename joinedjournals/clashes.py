"""What no order of events can explain."""

from joinedjournals.chains import START, clashing_chain
from joinedjournals.days import lines_between_parties
from joinedjournals.facts import CORRECTION, KIND, KNOWN, writer_and_number


def can_be_explained(facts):
    return len(chain_below_zero(facts)) == 0 and len(ring_of_corrections(facts)) == 0


# The lines of the chain between parties that can't be, or none.
def chain_below_zero(facts):
    return clashing_chain(lines_between_parties(facts))


# The places of the corrections each of which tells the next one as known, and the last one the first; or none.
def ring_of_corrections(facts):
    return [line[START] for line in clashing_chain(lines_between_corrections(facts))]


# A line from each correction's place to the place of each that is told in it. With -1 for each line every ring has a
# sum below 0, and all rings of as many lines have the same sum.
def lines_between_corrections(facts):
    lines = []
    for place, fact in enumerate(facts):
        if fact[KIND] == CORRECTION:
            lines.extend([(place, known, -1, place) for known in places_told_as_known(facts, fact)])
    return lines


def places_told_as_known(facts, correction):
    return [place for place, fact in enumerate(facts) if is_told_as_known(fact, correction)]


def is_told_as_known(fact, correction):
    return fact[KIND] == CORRECTION and writer_and_number(fact) in correction[KNOWN]
