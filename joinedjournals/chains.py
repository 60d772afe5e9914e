"""Lines, and chains of lines one behind another.

A line is a tuple: from where it leads, to where, its number (here its weight), its source. All four are whole numbers,
so that the order of tuples is the one in which lines are chosen.
"""

START = 0
END = 1
WEIGHT = 2


# Of the lines from one place to another the one with the least number, of these the one of the least source; in order.
def shortest_lines(lines):
    shortest = {}
    for line in sorted(lines):
        ends = (line[START], line[END])
        if ends not in shortest:
            shortest[ends] = line
    return list(shortest.values())


# A chain that ends where it begins, with a sum below 0: of these one of the fewest lines; of these one that begins at
# the least place; of these one with the least sum; of these one whose second place is least, and so on. Each of its
# lines has the least source that it can have. An empty list if there's no such chain.
def clashing_chain(lines):
    shortest = shortest_lines(lines)
    begins = sorted(set([line[START] for line in shortest]))
    sums = {}
    for begin in begins:
        sums[begin] = [{begin: 0}]
    # A chain that comes to one place twice can be parted there; so the shortest comes to each place once at most.
    for length in range(1, len(begins) + 1):
        for begin in begins:
            sums[begin].append(sums_with_one_line_more(shortest, sums[begin][-1]))
            if sums[begin][length].get(begin, 0) < 0:
                return chain_of_least_sum(shortest, begin, sums[begin])
    return []


# From the least sums of chains of so many lines to one end, by where they begin: those of chains of one line more.
def sums_with_one_line_more(lines, sums):
    longer = {}
    for line in lines:
        if line[END] in sums:
            keep_least(longer, line[START], line[WEIGHT] + sums[line[END]])
    return longer


# Whether the number is kept, because there was none or a greater one.
def keep_least(numbers, place, number):
    if place in numbers and numbers[place] <= number:
        return False
    numbers[place] = number
    return True


# The chain from the beginning back to it that has the least sum; of several the one with the least places. sums has,
# by how many lines are left, the least sums of chains that lead back.
def chain_of_least_sum(lines, begin, sums):
    chain = []
    at = begin
    for left in range(len(sums) - 2, -1, -1):
        fitting = [line for line in lines if leads_on(line, at, sums[left], sums[left + 1][at])]
        chain.append(fitting[0])
        at = fitting[0][END]
    return chain


# Whether the line leads from here to where the rest of the wanted sum is to be had.
def leads_on(line, here, sums, wanted):
    return line[START] == here and line[END] in sums and line[WEIGHT] + sums[line[END]] == wanted


# The least sums of all chains to the end, by where they begin; no line at all is a chain too. There must be no chain
# that ends where it begins with a sum below 0: with one there would be no least sum.
def least_sums(lines, end):
    sums = {end: 0}
    found = True
    while found:
        found = False
        for line in lines:
            if line[END] in sums and keep_least(sums, line[START], line[WEIGHT] + sums[line[END]]):
                found = True
    return sums
