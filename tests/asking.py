"""Calls as the tests write them, and their answers taken apart."""

from joinedjournals.heap import answers

CLEAR = [0]
COUNTS = [2]
GROUPS = [10]
CLASH = [11]
TWICE = [12]
CONTESTED = [13]


def numbers_of(text):
    return [ord(sign) for sign in text] if isinstance(text, str) else list(text)


def add(party, text):
    numbers = numbers_of(text)
    return [1, party, len(numbers)] + numbers


def print_of(party):
    return [3, party]


def fact(place):
    return [4, place]


def entry(party, number):
    return [5, party, number]


def knows(party, number):
    return [6, party, number]


def day(party, number):
    return [7, party, number]


def ahead(party, other_party):
    return [8, party, other_party]


def same(party, number, other_party):
    return [9, party, number, other_party]


def story(party):
    return [14, party]


def find(signs):
    numbers = numbers_of(signs)
    return [15, len(numbers)] + numbers


def counted(text):
    """A text as it's answered: how many signs it has, then these."""
    return [len(text)] + numbers_of(text)


def taken_apart(given):
    """The answers one by one; fails if the counts ahead of them don't fit."""
    parts = []
    at = 0
    while at < len(given):
        end = at + 1 + given[at]
        if given[at] < 1 or end > len(given):
            raise AssertionError(f"the count at {at} doesn't fit: {given}")
        parts.append(given[at + 1:end])
        at = end
    return parts


def ask(*calls):
    """The answers to the calls, a list each."""
    parts = taken_apart(answers([number for call in calls for number in call]))
    if len(parts) != len(calls):
        raise AssertionError(f"{len(calls)} calls, {len(parts)} answers")
    return parts


def last(*calls):
    """The answer to the last one of the calls."""
    return ask(*calls)[-1]


def behind(told, *calls):
    """The answers to the calls alone, asked behind what's told."""
    return ask(*told, *calls)[len(told):]


def all_facts(*calls):
    """All facts of the heap behind the calls, as the call fact answers them."""
    how_many = last(*calls, COUNTS)[0]
    places = [fact(place) for place in range(how_many)]
    return ask(*calls, *places)[len(calls):]


def standing_in(answer):
    """What stands, as the call entry answers it: pairs of place and text; fails if the counts don't fit."""
    pairs = []
    at = 1
    while at < len(answer):
        end = at + 2 + answer[at + 1]
        pairs.append((answer[at], "".join([chr(sign) for sign in answer[at + 2:end]])))
        at = end
    if len(pairs) != answer[0] or at != len(answer):
        raise AssertionError(f"the counts don't fit: {answer}")
    return pairs


def printed(party, *calls):
    """The party's journal behind the calls, as a text."""
    answer = last(*calls, print_of(party))
    if answer[0] != len(answer) - 1:
        raise AssertionError(f"the count of bytes doesn't fit: {answer}")
    return "".join([chr(number) for number in answer[1:]])
