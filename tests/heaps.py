"""Heaps that several tests ask: some that no order of events can explain."""

from tests.asking import add

# A correction before its own entry: a chain of one line.
BEFORE_ITS_ENTRY = [add(0, "D 3\nC 1 A 1 - b\nD 5\nE 1 a\n")]

# Two meetings that don't agree: a chain of two lines.
TWO_MEETINGS = [add(0, "D 10\nM B 3\nD 12\nM B 4\n")]

# Two corrections that know one another, on one day.
RING = [add(0, "D 1\nC 1 A 9 B1 a\n"), add(1, "D 1\nC 1 A 9 A1 a\n")]

UNEXPLAINED = [BEFORE_ITS_ENTRY, TWO_MEETINGS, RING]
