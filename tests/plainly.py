"""The answers of the calls 8 to 15, found by trying all there is: all days, all chains, all rings.

Slow, and good for small heaps alone: parties 0 to 2, days 0 to 4, some six corrections. Its facts are those that the
call fact answers, its lists of what stands those that the call entry answers."""

from itertools import product

LAST_DAY = 4
# By two lines at the most, of LAST_DAY at the most: how far two of three counts can be apart where that's bounded.
MOST_APART = 2 * LAST_DAY
# With this much room a bound that isn't there is passed by some of the days that are tried.
TRIED = range(-MOST_APART - 3 * LAST_DAY, MOST_APART + 3 * LAST_DAY + 1)


class Fact:
    """A fact as the call fact answers it."""

    def __init__(self, numbers):
        self.party, self.day, self.kind, self.number = numbers[:4]
        self.known = []
        if self.kind == 1:
            self.corrected = tuple(numbers[4:6])
            pairs = numbers[7:7 + 2 * numbers[6]]
            self.known = list(zip(pairs[::2], pairs[1::2]))
        if self.kind == 2:
            self.other_party, self.other_day = numbers[3:]

    def is_told_as(self, kind, pair):
        return self.kind == kind and (self.party, self.number) == pair


def lines_of(facts):
    lines = []
    for place, fact in enumerate(facts):
        if fact.kind == 2:
            lines.append((fact.party, fact.other_party, fact.day - fact.other_day, place))
            lines.append((fact.other_party, fact.party, fact.other_day - fact.day, place))
        if fact.kind == 1:
            for told in facts:
                if told.is_told_as(0, fact.corrected) or any([told.is_told_as(1, pair) for pair in fact.known]):
                    lines.append((fact.party, told.party, fact.day - told.day, place))
    return lines


def days_that_keep(lines):
    """All days of all on which the three counts may be 0, the first one's held fast."""
    days = [(0, second, third) for second, third in product(TRIED, TRIED)]
    return [zero for zero in days if all([zero[end] - zero[start] <= number for start, end, number, source in lines])]


def chains_of(lines, length):
    """All chains of so many lines."""
    chains = [[line] for line in lines]
    for step in range(length - 1):
        chains = [chain + [line] for chain in chains for line in lines if chain[-1][1] == line[0]]
    return chains


def order_of_chain(chain):
    return chain[0][0], sum([line[2] for line in chain]), [line[1] for line in chain], [line[3] for line in chain]


def clashing_chain(lines, parties):
    for length in range(1, parties + 1):
        closed = [chain for chain in chains_of(lines, length) if chain[0][0] == chain[-1][1]]
        below = [chain for chain in closed if sum([line[2] for line in chain]) < 0]
        if below:
            return min(below, key=order_of_chain)
    return []


def tells_as_known(fact, other):
    return any([other.is_told_as(1, pair) for pair in fact.known])


def ring(facts):
    corrections = [place for place, fact in enumerate(facts) if fact.kind == 1]
    rows = [[place] for place in corrections]
    while rows and len(rows[0]) <= len(corrections):
        rings = [row for row in rows if tells_as_known(facts[row[-1]], facts[row[0]])]
        if rings:
            return min(rings)
        rows = [row + [place] for row in rows for place in corrections if tells_as_known(facts[row[-1]], facts[place])]
    return []


def clash(facts, parties):
    chain = clashing_chain(sorted(set(lines_of(facts))), parties)
    if chain:
        return [1, len(chain)] + [number for line in chain for number in line]
    places = ring(facts)
    return [2, len(places)] + places if places else [0]


class Days:
    """The days of a heap of three parties that can be explained."""

    def __init__(self, facts):
        self.facts = facts
        self.zeros = days_that_keep(lines_of(facts))

    def ahead(self, party, other_party):
        numbers = [zero[other_party] - zero[party] for zero in self.zeros]
        least = [1, min(numbers)] if min(numbers) >= -MOST_APART else [0, 0]
        greatest = [1, max(numbers)] if max(numbers) <= MOST_APART else [0, 0]
        return [0] + least + greatest

    def is_known(self, party, other_party):
        return len({zero[other_party] - zero[party] for zero in self.zeros}) == 1

    def same(self, party, number, other_party):
        if not self.is_known(party, other_party):
            return [-9]
        return [0, self.zeros[0][party] + number - self.zeros[0][other_party]]

    def groups(self):
        least = [min([other for other in range(3) if self.is_known(party, other)]) for party in range(3)]
        return [0] + least + [3, 4, 5]

    def story(self, party):
        zero = self.zeros[0]
        told = {(zero[fact.party] + fact.day - zero[party], fact.party, fact.number)
                for fact in self.facts if fact.kind == 0 and self.is_known(party, fact.party)}
        return [0, len(told)] + [number for row in sorted(told) for number in row]
