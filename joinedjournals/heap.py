"""The heap of all facts that were told, and the calls on it."""

from joinedjournals.clashes import can_be_explained, chain_below_zero, ring_of_corrections
from joinedjournals.days import greatest_ahead, known_ahead, least_ahead, lines_between_parties
from joinedjournals.facts import (
    CORRECTION, DAY, ENTRY, KIND, KNOWN, KNOWN_COUNT, MEETING, NUMBER, PARTY, TEXT, facts_of_kind, facts_told_as,
    told_entries,
)
from joinedjournals.reading import read_journal
from joinedjournals.signs import is_within
from joinedjournals.standing import known_corrections, standing_places
from joinedjournals.writing import write_journal

CLEAR = 0
ADD = 1
COUNTS = 2
PRINT = 3
FACT = 4
ENTRY_CALL = 5
KNOWS = 6
DAY_CALL = 7
AHEAD = 8
SAME = 9
GROUPS = 10
CLASH = 11
TWICE = 12
CONTESTED = 13
STORY = 14
FIND = 15

# By a call's number: how many whole numbers it has.
WHOLE_NUMBERS = (0, 1, 0, 1, 1, 2, 2, 2, 2, 3, 0, 0, 0, 0, 1, 0)

OUT_OF_RANGE = -1
NOT_TOLD = -4
TOO_MANY = -5
NOT_EXPLAINED = -7
NOT_KNOWN = -9
WRONG_LINE = -100

PARTIES = (0, 1, 2, 3, 4, 5)
LAST_NUMBER = 9999
LAST_BYTE = 255
LAST_PLACE_ASKED = 1000
MOST_BYTES = 1500
MOST_SIGNS = 40
MOST_FACTS = 60
MOST_CORRECTIONS = 12


# Its facts are all that were told, each once, in order.
class Heap:
    def __init__(self):
        self.facts = []


# The answers to a list of calls on a new heap, each with how many numbers it has before it.
def answers(calls):
    heap = Heap()
    given = []
    at = 0
    while at < len(calls):
        call = calls[at]
        row_at = at + 1 + WHOLE_NUMBERS[call]
        numbers = calls[at + 1:row_at]
        row = []
        at = row_at
        if call == ADD or call == FIND:
            at = row_at + 1 + calls[row_at]
            row = calls[row_at + 1:at]
        answer = answer_call(heap, call, numbers, row)
        given.append(len(answer))
        given.extend(answer)
    return given


# The numbers that are answered to one call.
def answer_call(heap, call, numbers, row):
    if call == CLEAR:
        return answer_clear(heap)
    if call == ADD:
        return answer_add(heap, numbers[0], row)
    if call == COUNTS:
        return answer_counts(heap.facts)
    if call == PRINT:
        return answer_print(heap.facts, numbers[0])
    if call == FACT:
        return answer_fact(heap.facts, numbers[0])
    if call == ENTRY_CALL:
        return answer_entry(heap.facts, numbers[0], numbers[1])
    if call == KNOWS:
        return answer_knows(heap.facts, numbers[0], numbers[1])
    if call == DAY_CALL:
        return answer_day(heap.facts, numbers[0], numbers[1])
    return answer_call_on_story(heap.facts, call, numbers, row)


# The numbers that are answered to one of the calls 8 to 15.
def answer_call_on_story(facts, call, numbers, row):
    if call == AHEAD:
        return answer_ahead(facts, numbers[0], numbers[1])
    if call == SAME:
        return answer_same(facts, numbers[0], numbers[1], numbers[2])
    if call == GROUPS:
        return answer_groups(facts)
    if call == CLASH:
        return answer_clash(facts)
    if call == TWICE:
        return answer_twice(facts)
    if call == CONTESTED:
        return answer_contested(facts)
    if call == STORY:
        return answer_story(facts, numbers[0])
    return answer_find(facts, row)


def is_party(number):
    return number in PARTIES


def is_day(number):
    return 0 <= number <= LAST_NUMBER


# Whether an entry or a correction may have this number.
def is_number_of_fact(number):
    return 1 <= number <= LAST_NUMBER


def is_row_of_bytes(row, most):
    return len(row) <= most and all([0 <= number <= LAST_BYTE for number in row])


# The numbers, with how many they are before them.
def counted(numbers):
    return [len(numbers)] + list(numbers)


# The rows' numbers, with how many rows they are before them; each row has as many numbers as the others.
def counted_rows(rows):
    numbers = [len(rows)]
    for row in rows:
        numbers.extend(row)
    return numbers


def answer_clear(heap):
    heap.facts = []
    return [0]


def answer_add(heap, party, text):
    if not is_party(party) or not is_row_of_bytes(text, MOST_BYTES):
        return [OUT_OF_RANGE]
    reading = read_journal(party, text)
    if reading.wrong_line > 0:
        return [WRONG_LINE - reading.wrong_line]
    joined = sorted(set(heap.facts) | set(reading.facts))
    if len(joined) > MOST_FACTS or len(facts_of_kind(joined, CORRECTION)) > MOST_CORRECTIONS:
        return [TOO_MANY]
    new_facts = len(joined) - len(heap.facts)
    heap.facts = joined
    return [new_facts]


def answer_counts(facts):
    corrections = facts_of_kind(facts, CORRECTION)
    meetings = facts_of_kind(facts, MEETING)
    return [len(facts), len(told_entries(facts)), len(corrections), len(meetings)]


def answer_print(facts, party):
    if not is_party(party):
        return [OUT_OF_RANGE]
    return counted(write_journal(facts, party))


def answer_fact(facts, place):
    if not 0 <= place <= LAST_PLACE_ASKED:
        return [OUT_OF_RANGE]
    if place >= len(facts):
        return [NOT_TOLD]
    fact = facts[place]
    if fact[KIND] == ENTRY:
        return list(fact[:TEXT]) + counted(fact[TEXT])
    if fact[KIND] == CORRECTION:
        return list(fact[:KNOWN_COUNT]) + counted_rows(fact[KNOWN]) + counted(fact[TEXT])
    return list(fact)


def answer_entry(facts, party, number):
    if not is_party(party) or not is_number_of_fact(number):
        return [OUT_OF_RANGE]
    if len(facts_told_as(facts, ENTRY, party, number)) == 0:
        return [NOT_TOLD]
    places = standing_places(facts, party, number)
    answer = [len(places)]
    for place in places:
        answer.append(place)
        answer.extend(counted(facts[place][TEXT]))
    return answer


def answer_knows(facts, party, number):
    if not is_party(party) or not is_number_of_fact(number):
        return [OUT_OF_RANGE]
    corrections = facts_told_as(facts, CORRECTION, party, number)
    if len(corrections) == 0:
        return [NOT_TOLD]
    return counted_rows(known_corrections(facts, corrections[0]))


def answer_day(facts, party, day):
    if not is_party(party) or not is_day(day):
        return [OUT_OF_RANGE]
    return counted([place for place, fact in enumerate(facts) if fact[PARTY] == party and fact[DAY] == day])


def answer_ahead(facts, party, other_party):
    if not is_party(party) or not is_party(other_party):
        return [OUT_OF_RANGE]
    if not can_be_explained(facts):
        return [NOT_EXPLAINED]
    lines = lines_between_parties(facts)
    least = least_ahead(lines, party, other_party)
    greatest = greatest_ahead(lines, party, other_party)
    return [0] + one_and_number(least) + one_and_number(greatest)


# A number that may be None, as it's answered.
def one_and_number(number):
    return [0, 0] if number is None else [1, number]


def answer_same(facts, party, day, other_party):
    if not is_party(party) or not is_day(day) or not is_party(other_party):
        return [OUT_OF_RANGE]
    if not can_be_explained(facts):
        return [NOT_EXPLAINED]
    ahead = known_ahead(lines_between_parties(facts), party, other_party)
    return [NOT_KNOWN] if ahead is None else [0, day - ahead]


def answer_groups(facts):
    if not can_be_explained(facts):
        return [NOT_EXPLAINED]
    lines = lines_between_parties(facts)
    return [0] + [parties_of_group(lines, party)[0] for party in PARTIES]


# The parties, itself among them, for which it's known how far this party's count is ahead of theirs; in order.
def parties_of_group(lines, party):
    return [other_party for other_party in PARTIES if known_ahead(lines, party, other_party) is not None]


def answer_clash(facts):
    chain = chain_below_zero(facts)
    if len(chain) > 0:
        return [1] + counted_rows(chain)
    ring = ring_of_corrections(facts)
    if len(ring) > 0:
        return [2] + counted(ring)
    return [0]


def answer_twice(facts):
    return counted([place for place, fact in enumerate(facts) if is_told_twice(facts, fact)])


def is_told_twice(facts, fact):
    if fact[KIND] == MEETING:
        return False
    return len(facts_told_as(facts, fact[KIND], fact[PARTY], fact[NUMBER])) > 1


def answer_contested(facts):
    entries = told_entries(facts)
    return counted_rows([entry for entry in entries if len(standing_places(facts, entry[0], entry[1])) > 1])


def answer_story(facts, party):
    if not is_party(party):
        return [OUT_OF_RANGE]
    if not can_be_explained(facts):
        return [NOT_EXPLAINED]
    lines = lines_between_parties(facts)
    story = []
    for other_party in parties_of_group(lines, party):
        ahead = known_ahead(lines, party, other_party)
        entries = [fact for fact in facts_of_kind(facts, ENTRY) if fact[PARTY] == other_party]
        story.extend([(fact[DAY] + ahead, other_party, fact[NUMBER]) for fact in entries])
    return [0] + counted_rows(sorted(set(story)))


def answer_find(facts, signs):
    if not is_row_of_bytes(signs, MOST_SIGNS):
        return [OUT_OF_RANGE]
    return counted_rows([entry for entry in told_entries(facts) if stands_with_signs(facts, entry, tuple(signs))])


# Whether of the entry, a pair (party, number), some fact stands whose text has the signs in it.
def stands_with_signs(facts, entry, signs):
    places = standing_places(facts, entry[0], entry[1])
    return any([is_within(signs, facts[place][TEXT]) for place in places])
