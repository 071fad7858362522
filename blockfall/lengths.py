"""Lengths of laid rows: each jump as short as a reach lets it be, all together."""

from blockfall.laying import JUMPS

SHORT = 1
LONG = 3


def lengths(rows, reach):
    told = [SHORT for row in rows]
    asked = lengths_asked(rows, reach, told)
    # Rows that become long move others farther apart, so it is asked again till nothing changes.
    while asked != told:
        told = asked
        asked = lengths_asked(rows, reach, told)
    return told


def lengths_asked(rows, reach, told):
    # From turn to turn nothing moves nearer, so a row that had to be long has to be so again.
    begins = begins_by(told)
    return [LONG if has_to_be_long(place, row, reach, begins) else SHORT for place, row in enumerate(rows)]


def right_lengths(rows, reach, told):
    if len(told) != len(rows):
        return False
    begins = begins_by(told)
    for place, row in enumerate(rows):
        if told[place] not in lengths_of(row):
            return False
        if told[place] == SHORT and has_to_be_long(place, row, reach, begins):
            return False
    return True


def lengths_of(row):
    return (SHORT, LONG) if row[0] in JUMPS else (SHORT,)


def begins_by(told):
    # One more than there are rows: the last one is the end of all.
    begins = [0]
    for number in told:
        begins.append(begins[-1] + number)
    return begins


def has_to_be_long(place, row, reach, begins):
    if row[0] not in JUMPS:
        return False
    to = min(row[-1], len(begins) - 1)
    # A row ends where the one behind it begins.
    return abs(begins[to] - begins[place + 1]) > reach
