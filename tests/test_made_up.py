"""Made-up journals: what's answered is what trying all there is finds."""

import random
import unittest

from tests.asking import (
    CLASH, CONTESTED, GROUPS, TWICE, add, ahead, all_facts, behind, entry, find, last, same, standing_in, story,
)
from tests.plainly import LAST_DAY, Days, Fact, clash

LETTERS = "ABCDEF"


class Maker:
    """Makes up journals, the same ones for the same number."""

    def __init__(self, number, parties):
        self.chance = random.Random(number)
        self.parties = parties
        self.shifts = [self.chance.randrange(2) for party in range(parties)]

    def day(self, party, day, truth):
        """The day by the party's count, or any day where the truth isn't told."""
        return day + self.shifts[party] if self.chance.random() < truth else self.chance.randrange(LAST_DAY + 1)

    def known(self, party, number):
        pairs = [(writer, told) for writer in range(self.parties) for told in [1, 2]]
        pairs.remove((party, number))
        chosen = self.chance.sample(pairs, self.chance.choice([0, 1, 1, 2]))
        return ",".join([f"{LETTERS[writer]}{told}" for writer, told in chosen]) or "-"

    def fact(self, truth, may_correct):
        """A party, and a text of it with one fact."""
        party = self.chance.randrange(self.parties)
        kind = self.chance.choice("ECCM" if may_correct else "EEM")
        number = self.chance.choice([1, 2])
        text = self.chance.choice(["a", "b", "ab", "ba", ""])
        if kind == "E":
            return party, f"D {self.day(party, self.chance.randrange(3), truth)}\nE {number} {text}\n"
        if kind == "C":
            corrected = f"{self.chance.choice(LETTERS[:self.parties])} {self.chance.choice([1, 2])}"
            return party, f"D {self.day(party, 3, truth)}\nC {number} {corrected} {self.known(party, number)} {text}\n"
        other = self.chance.choice([other for other in range(self.parties) if other != party])
        met = self.chance.randrange(3)
        return party, f"D {self.day(party, met, truth)}\nM {LETTERS[other]} {self.day(other, met, truth)}\n"

    def journals(self, truth, how_many, most_corrections):
        calls = []
        corrections = 0
        for step in range(how_many):
            party, text = self.fact(truth, corrections < most_corrections)
            corrections += "\nC" in text
            calls.append(add(party, text))
        return calls


def heaps(parties, how_many, most):
    """So many heaps, as calls, some of them with nothing in them but the truth."""
    made = []
    for number in range(how_many):
        maker = Maker(number, parties)
        truth = maker.chance.choice([1, 0.9, 0.5])
        made.append(maker.journals(truth, maker.chance.randrange(4, most + 1), 6))
    return made


def lines_one_way(number):
    """Lines between six parties that lead one way each, some in a circle: corrections of entries of other days."""
    chance = random.Random(number)
    circle = chance.sample(range(6), chance.randrange(2, 7))
    lines = [(party, other, chance.randrange(-2, 2)) for party, other in zip(circle, circle[1:] + circle[:1])]
    for step in range(chance.randrange(0, 6)):
        lines.append((chance.randrange(6), chance.randrange(6), chance.randrange(-1, 4)))
    calls = []
    for at, (party, other, days) in enumerate(lines, start=1):
        calls.append(add(other, f"D 20\nE {at} a\n"))
        calls.append(add(party, f"D {20 + days}\nC {at} {LETTERS[other]} {at} - b\n"))
    return calls


def corrections_of_one_day(number):
    """Corrections of party 0 that tell one another as known, some in a circle and some in two ways."""
    chance = random.Random(number)
    circle = chance.sample(range(1, 8), chance.randrange(2, 8))
    known = list(zip(circle, circle[1:] + circle[:1])) if chance.random() < 0.8 else []
    known += [chance.sample(range(1, 8), 2) for step in range(chance.randrange(0, 5))]
    return [add(0, "D 1\n" + "".join([f"C {own} A 99 A{other} a\n" for own, other in known]))]


class MadeUpTest(unittest.TestCase):
    def test_clash_of_three_parties(self):
        seen = {self.assert_clash(told, 3) for told in heaps(3, 300, 14)}
        self.assertTrue(seen >= {(0,), (1, 1), (1, 2), (1, 3), (2, 2)}, seen)

    def test_clash_of_six_parties(self):
        seen = {self.assert_clash(told, 6) for told in heaps(6, 200, 12)}
        self.assertTrue(seen >= {(0,), (1, 1), (1, 2), (2, 2)}, seen)

    def test_chains_of_each_length(self):
        seen = {self.assert_clash(lines_one_way(number), 6) for number in range(200)}
        self.assertEqual(seen, {(0,)} | {(1, length) for length in range(1, 7)})

    def test_rings_of_many_lengths(self):
        seen = {self.assert_clash(corrections_of_one_day(number), 1) for number in range(200)}
        self.assertEqual(seen, {(0,)} | {(2, length) for length in range(2, 8)})

    def assert_clash(self, told, parties):
        """Gives back the kind of clash, and how long it is."""
        facts = [Fact(numbers) for numbers in all_facts(*told)]
        wanted = clash(facts, parties)
        self.assertEqual(last(*told, CLASH), wanted)
        return tuple(wanted[:2])

    def test_days(self):
        explained = 0
        for told in heaps(3, 200, 12):
            facts = [Fact(numbers) for numbers in all_facts(*told)]
            pairs = [(party, other) for party in range(3) for other in range(3)]
            asked = [ahead(*pair) for pair in pairs] + [same(party, 3, other) for party, other in pairs]
            asked += [GROUPS] + [story(party) for party in range(3)]
            if clash(facts, 3) == [0]:
                explained += 1
                days = Days(facts)
                wanted = [days.ahead(*pair) for pair in pairs] + [days.same(party, 3, other) for party, other in pairs]
                wanted += [days.groups()] + [days.story(party) for party in range(3)]
            else:
                wanted = [[-7]] * len(asked)
            self.assertEqual(behind(told, *asked), wanted)
        self.assertTrue(50 < explained < 150, explained)

    def test_what_stands(self):
        for told in heaps(3, 200, 14):
            facts = [Fact(numbers) for numbers in all_facts(*told)]
            pairs = sorted({(fact.party, fact.number) for fact in facts if fact.kind == 0})
            given = behind(told, *[entry(*pair) for pair in pairs])
            standing = dict(zip(pairs, [[text for place, text in standing_in(answer)] for answer in given]))
            wanted = [listed([pair for pair in pairs if len(standing[pair]) > 1])]
            for signs in ["", "a", "ab", "aba"]:
                wanted.append(listed([pair for pair in pairs if any([signs in text for text in standing[pair]])]))
            self.assertEqual(behind(told, CONTESTED, find(""), find("a"), find("ab"), find("aba")), wanted)

    def test_twice(self):
        for told in heaps(3, 200, 14):
            facts = [Fact(numbers) for numbers in all_facts(*told)]
            told_as = [(fact.kind, fact.party, fact.number) for fact in facts]
            places = [place for place, key in enumerate(told_as) if key[0] != 2 and told_as.count(key) > 1]
            self.assertEqual(last(*told, TWICE), [len(places)] + places)


def listed(pairs):
    return [len(pairs)] + [number for pair in pairs for number in pair]


if __name__ == "__main__":
    unittest.main()
