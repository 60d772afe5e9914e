"""What the facts tell of days: how far a party's count is ahead of another's."""

from joinedjournals.chains import least_sums, shortest_lines
from joinedjournals.facts import (
    CORRECTED_NUMBER, CORRECTED_PARTY, CORRECTION, DAY, ENTRY, KIND, KNOWN, MEETING, OTHER_DAY, OTHER_PARTY, PARTY,
    facts_told_as,
)


# The lines between parties that the facts say; the source of a line is the place of its fact. Of those from one party
# to another just the shortest is there: the others say nothing more, and there may be hundreds.
def lines_between_parties(facts):
    lines = []
    for place, fact in enumerate(facts):
        if fact[KIND] == MEETING:
            lines.extend(lines_of_meeting(fact, place))
        if fact[KIND] == CORRECTION:
            lines.extend(lines_of_correction(facts, fact, place))
    return shortest_lines(lines)


def lines_of_meeting(fact, place):
    apart = fact[DAY] - fact[OTHER_DAY]
    return [(fact[PARTY], fact[OTHER_PARTY], apart, place), (fact[OTHER_PARTY], fact[PARTY], -apart, place)]


# Neither what is corrected nor what was known is of a later day than the correction.
def lines_of_correction(facts, fact, place):
    earlier = facts_told_as(facts, ENTRY, fact[CORRECTED_PARTY], fact[CORRECTED_NUMBER])
    for pair in fact[KNOWN]:
        earlier.extend(facts_told_as(facts, CORRECTION, pair[0], pair[1]))
    return [(fact[PARTY], told[PARTY], fact[DAY] - told[DAY], place) for told in earlier]


# The greatest number of days by which the party's count may be ahead of the other's, or None if there's none.
def greatest_ahead(lines, party, other_party):
    return least_sums(lines, other_party).get(party)


# The least such number, or None if there's none.
def least_ahead(lines, party, other_party):
    behind = greatest_ahead(lines, other_party, party)
    if behind is None:
        return None
    return -behind


# How far the party's count is ahead of the other's, or None if that isn't known.
def known_ahead(lines, party, other_party):
    least = least_ahead(lines, party, other_party)
    if least == greatest_ahead(lines, party, other_party):
        return least
    return None
