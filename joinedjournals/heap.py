"""The heap of all facts that were told, and the calls on it."""

from joinedjournals.facts import (
    CORRECTION, DAY, ENTRY, KIND, KNOWN, KNOWN_COUNT, MEETING, PARTY, TEXT, facts_of_kind, facts_told_as,
    writer_and_number,
)
from joinedjournals.reading import read_journal
from joinedjournals.standing import known_corrections, standing_places
from joinedjournals.writing import write_journal

CLEAR = 0
ADD = 1
COUNTS = 2
PRINT = 3
FACT = 4
ENTRY_CALL = 5
KNOWS = 6
DAY_CALL = 7

# By a call's number: how many whole numbers it has.
WHOLE_NUMBERS = (0, 1, 0, 1, 1, 2, 2, 2)

OUT_OF_RANGE = -1
NOT_TOLD = -4
TOO_MANY = -5
WRONG_LINE = -100

LAST_PARTY = 5
LAST_NUMBER = 9999
LAST_BYTE = 255
LAST_PLACE_ASKED = 1000
MOST_BYTES = 1500
MOST_FACTS = 60
MOST_CORRECTIONS = 12


# Its facts are all that were told, each once, in order.
class Heap:
    def __init__(self):
        self.facts = []


# The answers to a list of calls on a new heap, each with how many numbers it has before it.
def answers(calls):
    heap = Heap()
    given = []
    at = 0
    while at < len(calls):
        call = calls[at]
        row_at = at + 1 + WHOLE_NUMBERS[call]
        numbers = calls[at + 1:row_at]
        row = []
        at = row_at
        if call == ADD:
            at = row_at + 1 + calls[row_at]
            row = calls[row_at + 1:at]
        answer = answer_call(heap, call, numbers, row)
        given.append(len(answer))
        given.extend(answer)
    return given


# The numbers that are answered to one call.
def answer_call(heap, call, numbers, row):
    if call == CLEAR:
        return answer_clear(heap)
    if call == ADD:
        return answer_add(heap, numbers[0], row)
    if call == COUNTS:
        return answer_counts(heap.facts)
    if call == PRINT:
        return answer_print(heap.facts, numbers[0])
    if call == FACT:
        return answer_fact(heap.facts, numbers[0])
    if call == ENTRY_CALL:
        return answer_entry(heap.facts, numbers[0], numbers[1])
    if call == KNOWS:
        return answer_knows(heap.facts, numbers[0], numbers[1])
    return answer_day(heap.facts, numbers[0], numbers[1])


def is_party(number):
    return 0 <= number <= LAST_PARTY


def is_day(number):
    return 0 <= number <= LAST_NUMBER


# Whether an entry or a correction may have this number.
def is_number_of_fact(number):
    return 1 <= number <= LAST_NUMBER


def is_row_of_bytes(row, most):
    return len(row) <= most and all([0 <= number <= LAST_BYTE for number in row])


# The numbers, with how many they are before them.
def counted(numbers):
    return [len(numbers)] + list(numbers)


# The pairs' numbers, with how many pairs they are before them.
def counted_pairs(pairs):
    numbers = [len(pairs)]
    for pair in pairs:
        numbers.extend(pair)
    return numbers


def answer_clear(heap):
    heap.facts = []
    return [0]


def answer_add(heap, party, text):
    if not is_party(party) or not is_row_of_bytes(text, MOST_BYTES):
        return [OUT_OF_RANGE]
    reading = read_journal(party, text)
    if reading.wrong_line > 0:
        return [WRONG_LINE - reading.wrong_line]
    joined = sorted(set(heap.facts) | set(reading.facts))
    if len(joined) > MOST_FACTS or len(facts_of_kind(joined, CORRECTION)) > MOST_CORRECTIONS:
        return [TOO_MANY]
    new_facts = len(joined) - len(heap.facts)
    heap.facts = joined
    return [new_facts]


def answer_counts(facts):
    entries = [writer_and_number(fact) for fact in facts_of_kind(facts, ENTRY)]
    corrections = facts_of_kind(facts, CORRECTION)
    meetings = facts_of_kind(facts, MEETING)
    return [len(facts), len(set(entries)), len(corrections), len(meetings)]


def answer_print(facts, party):
    if not is_party(party):
        return [OUT_OF_RANGE]
    return counted(write_journal(facts, party))


def answer_fact(facts, place):
    if not 0 <= place <= LAST_PLACE_ASKED:
        return [OUT_OF_RANGE]
    if place >= len(facts):
        return [NOT_TOLD]
    fact = facts[place]
    if fact[KIND] == ENTRY:
        return list(fact[:TEXT]) + counted(fact[TEXT])
    if fact[KIND] == CORRECTION:
        return list(fact[:KNOWN_COUNT]) + counted_pairs(fact[KNOWN]) + counted(fact[TEXT])
    return list(fact)


def answer_entry(facts, party, number):
    if not is_party(party) or not is_number_of_fact(number):
        return [OUT_OF_RANGE]
    if len(facts_told_as(facts, ENTRY, party, number)) == 0:
        return [NOT_TOLD]
    places = standing_places(facts, party, number)
    answer = [len(places)]
    for place in places:
        answer.append(place)
        answer.extend(counted(facts[place][TEXT]))
    return answer


def answer_knows(facts, party, number):
    if not is_party(party) or not is_number_of_fact(number):
        return [OUT_OF_RANGE]
    corrections = facts_told_as(facts, CORRECTION, party, number)
    if len(corrections) == 0:
        return [NOT_TOLD]
    return counted_pairs(known_corrections(facts, corrections[0]))


def answer_day(facts, party, day):
    if not is_party(party) or not is_day(day):
        return [OUT_OF_RANGE]
    return counted([place for place, fact in enumerate(facts) if fact[PARTY] == party and fact[DAY] == day])
