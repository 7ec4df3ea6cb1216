"""Rows that can be come to: their stretches, how many there are, and their numbers."""

from pocketmill.errors import BadRow, NoRow, Shut
from pocketmill.least import open_sides
from pocketmill.mills import is_within
from pocketmill.trays import MOST_LETTERS


def look_at_widths(mill):
    for pockets in mill.passes:
        if any([width == 0 for kind, width in pockets]):
            raise Shut("a pocket has the width 0")


def is_row(row):
    if not isinstance(row, (list, tuple)) or len(row) > MOST_LETTERS:
        return False
    return all([is_within(letter, 0, len(row) - 1) for letter in row]) and sorted(row) == list(range(len(row)))


def faces(mill):
    look_at_widths(mill)
    return [side for code, side in open_sides(mill, 1, 0)]


def goes_on(side, rising):
    return rising == (side == 1)


def stretches(mill, row):
    sides = faces(mill)
    if not is_row(row):
        raise BadRow("a row has at most 24 letters, each number below their count once")
    found = []
    for letter in row:
        if len(found) > 0 and goes_on(sides[len(found) - 1], letter > found[-1][-1]):
            found[-1].append(letter)
        elif len(found) < len(sides):
            found.append([letter])
        else:
            return None
    return found


def come_to(mill, row):
    return stretches(mill, row) is not None


def useful_sides(mill, m):
    # No row has more stretches than letters; without letters there is still the first stretch to begin in.
    return faces(mill)[:max(m, 1)]


def first_below(sides, m):
    # The first letter stands in stretch 0 whatever it is: as if it came behind one that lets each letter go on.
    return 0 if sides[0] == 1 else m


def stretch_for(sides, stretch, below, place):
    """The stretch of a letter with `place` lesser ones left, behind one in a stretch with `below` lesser ones left."""
    return stretch if goes_on(sides[stretch], place >= below) else stretch + 1


def choices(sides, fewer, stretch, below):
    """For each letter that is left, from the least on, how many rows go on with it; fewer is told by ways_left."""
    counts = []
    for place in range(len(fewer[0])):
        further = stretch_for(sides, stretch, below, place)
        counts.append(fewer[further][place] if further < len(sides) else 0)
    return counts


def ways_from(sides, fewer, stretch):
    return [sum(choices(sides, fewer, stretch, below)) for below in range(len(fewer[0]) + 1)]


def ways_left(sides, m):
    """For each count of letters left, up to m, each stretch and each count of lesser ones: how many rows go on so."""
    tables = [[[1] for side in sides]]
    for left in range(m):
        tables.append([ways_from(sides, tables[left], stretch) for stretch in range(len(sides))])
    return tables


def ways_in_all(sides, tables, m):
    return tables[m][0][first_below(sides, m)] if m >= 0 else 0


def many_rows(mill, m):
    sides = useful_sides(mill, m)
    return ways_in_all(sides, ways_left(sides, m), m)


def row_at(mill, m, number):
    sides = useful_sides(mill, m)
    tables = ways_left(sides, m)
    if not is_within(number, 0, ways_in_all(sides, tables, m) - 1):
        raise NoRow("no row that can be come to has this number")
    letters = list(range(m))
    row = []
    stretch = 0
    below = first_below(sides, m)
    rest = number
    while len(letters) > 0:
        counts = choices(sides, tables[len(letters) - 1], stretch, below)
        place = 0
        while rest >= counts[place]:
            rest = rest - counts[place]
            place = place + 1
        stretch = stretch_for(sides, stretch, below, place)
        below = place
        row.append(letters.pop(place))
    return row


def number_of(mill, row):
    if not come_to(mill, row):
        raise NoRow("the row can't be come to")
    sides = useful_sides(mill, len(row))
    tables = ways_left(sides, len(row))
    letters = sorted(row)
    stretch = 0
    below = first_below(sides, len(row))
    number = 0
    for letter in row:
        place = letters.index(letter)
        letters.pop(place)
        number = number + sum(choices(sides, tables[len(letters)], stretch, below)[:place])
        stretch = stretch_for(sides, stretch, below, place)
        below = place
    return number
