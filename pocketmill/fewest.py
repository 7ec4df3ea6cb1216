"""The fewest passes that bring a wish about, and the codes that it needs."""

from pocketmill.chains import bars, does
from pocketmill.errors import BadCount, BadPlan
from pocketmill.least import least_plan
from pocketmill.mills import Mill, is_within
from pocketmill.trays import look_at_letters


def first_passes(mill, count):
    if not is_within(count, 0, mill.many()):
        raise BadCount("a count of passes is from 0 to the count of the mill's passes")
    return Mill(mill.passes[:count])


def counts_asked(mill, letters):
    least = max([late for size, late in letters], default=0)
    return list(range(least, mill.many() + 1))


def fewest(mill, letters, wish):
    look_at_letters(mill, letters)
    chains = []
    for count in counts_asked(mill, letters):
        told = least_plan(first_passes(mill, count), letters, wish)
        if told[0] == "plan":
            return (count, told[1], chains)
        chains.append(told[1])
    return (None, None, chains)


def brings_about(mill, letters, wish, plan):
    try:
        return does(mill, letters, wish, plan)
    except BadPlan:
        return False


def all_bar(mill, letters, wish, counts, chains):
    if len(chains) != len(counts):
        return False
    return all([bars(first_passes(mill, count), letters, wish, chain) for count, chain in zip(counts, chains)])


def fewest_holds(mill, letters, wish, told):
    look_at_letters(mill, letters)
    counts = counts_asked(mill, letters)
    count = told[0]
    if count is None:
        return told[1] is None and all_bar(mill, letters, wish, counts, told[2])
    if not is_within(count, counts[0], counts[-1]):
        return False
    lesser = [other for other in counts if other < count]
    return brings_about(first_passes(mill, count), letters, wish, told[1]) and all_bar(
        mill, letters, wish, lesser, told[2])


def codes_needed(letters, wish):
    look_at_letters(Mill([]), letters)
    needed = 0
    # The greatest letter that has the last code so far: only beyond it can a letter have the same code. Ahead of the
    # first level there is no code yet, so every letter is below it.
    edge = len(letters)
    for level in wish.levels():
        lesser = [letter for letter in level if letter < edge]
        if len(lesser) > 0:
            needed = needed + 1
        edge = max(lesser if len(lesser) > 0 else level)
    return needed
