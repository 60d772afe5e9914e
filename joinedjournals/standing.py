"""What a correction knows, and what stands of an entry."""

from joinedjournals.facts import (
    CORRECTION, ENTRY, KNOWN, facts_of_kind, facts_told_as, is_correction_of, is_told_as, writer_and_number,
)


# All that this fact of a correction knows, as pairs (party, number) in rising order.
def known_corrections(facts, correction):
    corrections = facts_of_kind(facts, CORRECTION)
    known = {}
    waiting = list(correction[KNOWN])
    while len(waiting) > 0:
        pair = waiting.pop()
        if pair not in known:
            known[pair] = True
            for fact in facts_told_as(corrections, CORRECTION, pair[0], pair[1]):
                waiting.extend(fact[KNOWN])
    return sorted(known)


# The places of the facts that stand of the party's entry, which somebody tells; the least first.
def standing_places(facts, party, number):
    corrections = [place for place, fact in enumerate(facts) if is_correction_of(fact, party, number)]
    if len(corrections) == 0:
        return [place for place, fact in enumerate(facts) if is_told_as(fact, ENTRY, party, number)]
    return places_not_known(facts, corrections)


# Those places of corrections whose writer and number the fact at no other one of these places knows.
def places_not_known(facts, places):
    known = [known_corrections(facts, facts[place]) for place in places]
    left = []
    for at, place in enumerate(places):
        # A correction may know itself over others; that alone doesn't take it away.
        known_to_others = known[:at] + known[at + 1:]
        pair = writer_and_number(facts[place])
        if not any([pair in pairs for pairs in known_to_others]):
            left.append(place)
    return left
